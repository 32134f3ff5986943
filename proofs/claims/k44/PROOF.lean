import PyProof.Rows.All
import Wide.All
import OpenK.AllK
import Wide.FinOn
import HandS.ForMost
import HandS.ForExc
import HandS.Deep
import HandS.TupAny
import HandS.IsInst
import HandS.Exc
import HandS.Walk
import HandS.Zip
import HandS.Style
import HandS.WordsExc
import HandS.ExcOwn
import HandS.ExcInit
import HandS.ExcField
import HandS.Replace
import HandS.Base
import HandS.Call
import HandS.List
import HandS.Comp
import HandS.Iter
import HandS.Text
import HandS.Ends
import HandS.Words
import HandS.WordsList
import HandS.Strs
import KE.KxIndex
import KE.KEqSeq
import HandS.RevRange
import HandS.Conv
import KE.KRevSl
import PyProof.Rows.SortStr
import KE.GoesMore
import HandS.SortOrd
import HandS.SortRule
import HandS.TupSets
import HandS.Codes
import HandS.FltList
import PySem.Challenge.RW_syncedwords_k44_whole_necklaces
set_option Elab.async false
set_option linter.all false
set_option maxRecDepth 100000
namespace Sy
open PySem PySem.Spec PyProof.Rows L2
/-- a stream at s: a list of a list at l, a rest, and how many numbers were taken -/
def Strm (l : Addr) (H : Hp) (s : Addr) : Prop := l ≠ s ∧ ∃ (ns : List Int) (x k : Int), H l = some (.lst (ns.map V.int)) ∧ ns.length ≤ 63 ∧ H s = some (.lst [.ref l, .int x, .int k]) ∧ 0 ≤ x ∧ 0 ≤ k
end Sy
set_option autoImplicit false
/-! Pure words 1: values as trees, what stands for them in a heap, the state of a body. -/
namespace SyP
open PySem PySem.Spec PyProof.Rows L2 Sy

/-- a value as a tree -/
inductive PV where
  | non | bl (b : Bool) | int (i : Int) | str (x : Str) | tup (l : List PV) | lst (l : List PV) | dic (ks vs : List PV) | strm
/-- a value at a name or just made: frozen; a list or dict that it alone holds; the one that a slot holds, looked at -/
inductive AV where
  | fz (p : PV) | ow (p : PV) | br (i : Nat)
abbrev SA := Option (Addr × Addr)
def kP : Key → PV
  | .inl i => .int i
  | .inr x => .str x
/-- what stands in a dict -/
def HD (H : Hp) (a : Addr) (ks : List PV) (vs : List V) : Prop :=
  (∃ kvs, Rd H a (.dK kvs) ∧ ks = kvs.map (fun k => kP k.1) ∧ vs = kvs.map (·.2)) ∨ ∃ kvs, Rd H a (.dT kvs) ∧ ks = kvs.map (fun k => PV.tup (k.1.map kP)) ∧ vs = kvs.map (·.2)
mutual
def Rep (K : PySem.W.Frag) (sa : SA) (H : Hp) : PV → V → Prop
  | .non, v => v = .non
  | .bl b, v => v = .bl b
  | .int i, v => v = .int i
  | .str x, v => v = .str x
  | .tup l, v => ∃ a vs, v = .ref a ∧ SqT K H a vs ∧ Reps K sa H l vs
  | .lst l, v => ∃ a vs, v = .ref a ∧ H a = some (.lst vs) ∧ Reps K sa H l vs
  | .dic ks l, v => ∃ a vs, v = .ref a ∧ HD H a ks vs ∧ Reps K sa H l vs
  | .strm, v => ∃ l s, sa = some (l, s) ∧ v = .ref s
def Reps (K : PySem.W.Frag) (sa : SA) (H : Hp) : List PV → List V → Prop
  | [], vs => vs = []
  | p :: ps, vs => ∃ v r, vs = v :: r ∧ Rep K sa H p v ∧ Reps K sa H ps r
end
variable {K : PySem.W.Frag} {sa : SA} {H H' : Hp}
theorem Rd.same {H H' : Hp} {a : Addr} {u : HO} (s : Same H H') (h : Rd H a u) : Rd H' a u := by
  rcases h with h | ⟨o, h⟩
  · exact .inl (s _ _ h)
  · exact .inr ⟨o, s _ _ h⟩
theorem SqT.same {H H' : Hp} {a : Addr} {xs : List V} (s : Same H H') (h : SqT K H a xs) : SqT K H' a xs := by
  rcases h with h | h
  · exact .inl (Rd.same s h)
  · exact .inr h
theorem SqL.same {H H' : Hp} {a : Addr} {xs : List V} (s : Same H H') (h : SqL K H a xs) : SqL K H' a xs := by
  rcases h with h | h
  · exact .inl (Rd.same s h)
  · exact .inr h
theorem HD.same {H H' : Hp} {a : Addr} {ks : List PV} {vs : List V} (s : Same H H') (h : HD H a ks vs) : HD H' a ks vs := by
  rcases h with ⟨kvs, h, e⟩ | ⟨kvs, h, e⟩
  · exact .inl ⟨kvs, Rd.same s h, e⟩
  · exact .inr ⟨kvs, Rd.same s h, e⟩
mutual
theorem Rep.same (s : Same H H') : ∀ {p : PV} {v : V}, Rep K sa H p v → Rep K sa H' p v
  | .non, _, h => by unfold Rep at h ⊢; exact h
  | .bl b, _, h => by unfold Rep at h ⊢; exact h
  | .int i, _, h => by unfold Rep at h ⊢; exact h
  | .str x, _, h => by unfold Rep at h ⊢; exact h
  | .tup l, _, h => by unfold Rep at h ⊢; obtain ⟨a, vs, e, h1, h2⟩ := h; exact ⟨a, vs, e, SqT.same s h1, Reps.same s h2⟩
  | .lst l, _, h => by unfold Rep at h ⊢; obtain ⟨a, vs, e, h1, h2⟩ := h; exact ⟨a, vs, e, s _ _ h1, Reps.same s h2⟩
  | .dic ks l, _, h => by unfold Rep at h ⊢; obtain ⟨a, vs, e, h1, h2⟩ := h; exact ⟨a, vs, e, HD.same s h1, Reps.same s h2⟩
  | .strm, _, h => by unfold Rep at h ⊢; exact h
theorem Reps.same (s : Same H H') : ∀ {ps : List PV} {vs : List V}, Reps K sa H ps vs → Reps K sa H' ps vs
  | [], _, h => by unfold Reps at h ⊢; exact h
  | p :: ps, _, h => by unfold Reps at h ⊢; obtain ⟨v, r, e, h1, h2⟩ := h; exact ⟨v, r, e, Rep.same s h1, Reps.same s h2⟩
end
theorem Reps.length : ∀ {ps : List PV} {vs : List V}, Reps K sa H ps vs → vs.length = ps.length
  | [], _, h => by unfold Reps at h; rw [h]; rfl
  | p :: ps, _, h => by
    unfold Reps at h
    obtain ⟨v, r, e, _, h2⟩ := h
    rw [e, List.length_cons, List.length_cons, Reps.length h2]
theorem Reps.nil : Reps K sa H [] [] := by unfold Reps; rfl
theorem Reps.cons {p : PV} {v : V} {ps : List PV} {vs : List V} (h : Rep K sa H p v) (t : Reps K sa H ps vs) : Reps K sa H (p :: ps) (v :: vs) := by unfold Reps; exact ⟨v, vs, rfl, h, t⟩
theorem Reps.append : ∀ {ps qs : List PV} {vs us : List V}, Reps K sa H ps vs → Reps K sa H qs us → Reps K sa H (ps ++ qs) (vs ++ us)
  | [], _, _, _, h, t => by unfold Reps at h; subst h; exact t
  | p :: ps, _, _, _, h, t => by
    unfold Reps at h
    obtain ⟨v, r, rfl, h1, h2⟩ := h
    exact Reps.cons h1 (Reps.append h2 t)
theorem Reps.get : ∀ {ps : List PV} {vs : List V} {i : Nat} {p : PV}, Reps K sa H ps vs → ps[i]? = some p → ∃ v, vs[i]? = some v ∧ Rep K sa H p v
  | [], _, _, _, h, e => by simp at e
  | q :: ps, _, 0, _, h, e => by
    unfold Reps at h
    obtain ⟨v, r, rfl, h1, h2⟩ := h
    simp at e
    subst e
    exact ⟨v, rfl, h1⟩
  | q :: ps, _, i + 1, _, h, e => by
    unfold Reps at h
    obtain ⟨v, r, rfl, h1, h2⟩ := h
    obtain ⟨u, e1, e2⟩ := Reps.get (i := i) h2 (by simpa using e)
    exact ⟨u, by simpa using e1, e2⟩
theorem Reps.get' {ps : List PV} {vs : List V} {i : Nat} {v : V} (h : Reps K sa H ps vs) (e : vs[i]? = some v) : ∃ p, ps[i]? = some p ∧ Rep K sa H p v := by
  have hl := h.length
  have hi : i < ps.length := by
    have := (List.getElem?_eq_some_iff.mp e).1
    omega
  obtain ⟨u, e1, e2⟩ := h.get (List.getElem?_eq_getElem hi)
  rw [e] at e1
  cases e1
  exact ⟨_, List.getElem?_eq_getElem hi, e2⟩
theorem Reps.take : ∀ {ps : List PV} {vs : List V} (n : Nat), Reps K sa H ps vs → Reps K sa H (ps.take n) (vs.take n)
  | _, _, 0, _ => by simp only [List.take_zero]; exact Reps.nil
  | [], _, n + 1, h => by unfold Reps at h; subst h; exact Reps.nil
  | p :: ps, _, n + 1, h => by
    unfold Reps at h
    obtain ⟨v, r, rfl, h1, h2⟩ := h
    exact Reps.cons h1 (Reps.take n h2)
theorem Reps.drop : ∀ {ps : List PV} {vs : List V} (n : Nat), Reps K sa H ps vs → Reps K sa H (ps.drop n) (vs.drop n)
  | _, _, 0, h => h
  | [], _, n + 1, h => by unfold Reps at h; subst h; exact Reps.nil
  | p :: ps, _, n + 1, h => by
    unfold Reps at h
    obtain ⟨v, r, rfl, h1, h2⟩ := h
    exact Reps.drop n h2
theorem Reps.set : ∀ {ps : List PV} {vs : List V} (i : Nat) {p : PV} {v : V}, Rep K sa H p v → Reps K sa H ps vs → Reps K sa H (ps.set i p) (vs.set i v)
  | [], _, _, _, _, _, h => by unfold Reps at h; subst h; exact Reps.nil
  | q :: ps, _, 0, p, v, hp, h => by
    unfold Reps at h
    obtain ⟨u, r, rfl, h1, h2⟩ := h
    exact Reps.cons hp h2
  | q :: ps, _, i + 1, p, v, hp, h => by
    unfold Reps at h
    obtain ⟨u, r, rfl, h1, h2⟩ := h
    exact Reps.cons h1 (Reps.set i hp h2)
theorem Reps.reverse {ps : List PV} {vs : List V} (h : Reps K sa H ps vs) : Reps K sa H ps.reverse vs.reverse := by
  induction ps generalizing vs with
  | nil => unfold Reps at h; subst h; exact Reps.nil
  | cons p ps ih =>
    unfold Reps at h
    obtain ⟨v, r, rfl, h1, h2⟩ := h
    rw [List.reverse_cons, List.reverse_cons]
    exact Reps.append (ih h2) (Reps.cons h1 Reps.nil)
/-! ### the state of a body -/
/-- what the body's caller holds: the stream, the heap at the entry, what no frozen value leans on -/
structure Gh where
  sa : SA
  H0 : Hp
  O : Addr → Prop
def saOk (sa : SA) (H : Hp) : Prop := ∀ l s, sa = some (l, s) → Strm l H s
/-- all but the stream is as it was -/
def Fra (sa : SA) (H H' : Hp) : Prop := ∀ b o, (∀ l s, sa = some (l, s) → b ≠ s) → H b = some o → H' b = some o
theorem Fra.refl : Fra sa H H := fun _ _ _ h => h
theorem Fra.trans {H1 : Hp} (a : Fra sa H H1) (b : Fra sa H1 H') : Fra sa H H' := fun c o n h => b c o n (a c o n h)
theorem Fra.of (s : Same H H') : Fra sa H H' := fun b o _ h => s b o h
open Classical in
noncomputable def msk (P : Addr → Prop) (H : Hp) : Hp := fun a => if P a then none else H a
theorem msk_of {P : Addr → Prop} {a : Addr} (h : ¬ P a) : msk P H a = H a := by unfold msk; rw [if_neg h]
theorem of_msk {P : Addr → Prop} {a : Addr} {o : HO} (h : msk P H a = some o) : ¬ P a ∧ H a = some o := by
  unfold msk at h
  split at h
  · cases h
  · rename_i n
    exact ⟨n, h⟩
theorem msk_same {P P' : Addr → Prop} (h : ∀ a o, ¬ P a → H a = some o → ¬ P' a ∧ H' a = some o) : Same (msk P H) (msk P' H') := fun a o e => by
  obtain ⟨n, e⟩ := of_msk e
  obtain ⟨n', e'⟩ := h a o n e
  rw [msk_of n']
  exact e'
theorem msk_top {P : Addr → Prop} : Same (msk P H) H := fun a o e => (of_msk e).2
abbrev En := List (Option AV)
abbrev Ts := List (AV × V)
/-- the value is a list or dict of its own, at a -/
def OwAt (e : AV × V) (a : Addr) : Prop := (∃ p, e.1 = .ow p) ∧ e.2 = .ref a
def SlAt (ρ : En) (σ : L2.St) (i : Nat) (e : AV × V) : Prop := ρ[i]? = some (some e.1) ∧ σ[i]? = some (some e.2)
def Owns (ρ : En) (ts : Ts) (σ : L2.St) (a : Addr) : Prop := (∃ i e, SlAt ρ σ i e ∧ OwAt e a) ∨ ∃ e ∈ ts, OwAt e a
/-- an object that is held alone -/
def Obj1 (K : PySem.W.Frag) (sa : SA) (Hm H : Hp) (a : Addr) : PV → Prop
  | .lst l => ∃ vs, H a = some (.lst vs) ∧ Reps K sa Hm l vs
  | .dic ks l => (∃ kvs, H a = some (.dK kvs) ∧ ks = kvs.map (fun k => kP k.1) ∧ Reps K sa Hm l (kvs.map (·.2))) ∨ ∃ kvs, H a = some (.dT kvs) ∧ ks = kvs.map (fun k => PV.tup (k.1.map kP)) ∧ Reps K sa Hm l (kvs.map (·.2))
  | _ => False
def Ent (K : PySem.W.Frag) (sa : SA) (Hm H : Hp) : AV → V → Prop
  | .fz p, v => Rep K sa Hm p v
  | .ow p, v => ∃ a, v = .ref a ∧ Obj1 K sa Hm H a p
  | .br _, _ => False
def Tmp (K : PySem.W.Frag) (sa : SA) (Hm H : Hp) (σ : L2.St) : AV → V → Prop
  | .br i, v => σ[i]? = some (some v)
  | r, v => Ent K sa Hm H r v
def OA (G : Gh) (ρ : En) (ts : Ts) (σ : L2.St) (a : Addr) : Prop := Owns ρ ts σ a ∨ G.O a
structure Sta (K : PySem.W.Frag) (G : Gh) (ρ : En) (ts : Ts) (σ : L2.St) (H : Hp) : Prop where
  len : ρ.length = σ.length
  fr : Fra G.sa G.H0 H
  sk : saOk G.sa H
  so : ∀ l s, G.sa = some (l, s) → G.O s
  lo : ∀ l s, G.sa = some (l, s) → G.H0 l ≠ none
  od : ∀ a, G.O a → G.H0 a ≠ none
  new : ∀ a, Owns ρ ts σ a → G.H0 a = none
  slot : ∀ (i : Nat) (r : AV), ρ[i]? = some (some r) → ∃ v, σ[i]? = some (some v) ∧ Ent K G.sa (msk (OA G ρ ts σ) H) H r v
  tmp : ∀ e ∈ ts, Tmp K G.sa (msk (OA G ρ ts σ) H) H σ e.1 e.2
  dS : ∀ i j e f a, SlAt ρ σ i e → SlAt ρ σ j f → OwAt e a → OwAt f a → i = j
  dX : ∀ i e f a, SlAt ρ σ i e → f ∈ ts → OwAt e a → OwAt f a → False
  dT : ts.Pairwise fun e f => ∀ a, OwAt e a → OwAt f a → False
  brn : ∀ e ∈ ts, ∀ i, e.1 = .br i → ∃ r, ρ[i]? = some (some r)

variable {G : Gh} {ρ ρ' : En} {ts ts' : Ts} {σ : L2.St}
/-! ### what follows for the state -/
theorem Ent.mono {Hm Hm' H H' : Hp} (s : Same Hm Hm') (h : ∀ a p, Obj1 K sa Hm H a p → Obj1 K sa Hm' H' a p) : ∀ {r : AV} {v : V}, Ent K sa Hm H r v → Ent K sa Hm' H' r v
  | .fz _, _, e => Rep.same s e
  | .ow _, _, ⟨a, e, o⟩ => ⟨a, e, h a _ o⟩
theorem Obj1.same {Hm Hm' H H' : Hp} {a : Addr} (s : Same Hm Hm') (t : ∀ o, H a = some o → H' a = some o) : ∀ {p : PV}, Obj1 K sa Hm H a p → Obj1 K sa Hm' H' a p
  | .lst _, ⟨vs, h, r⟩ => ⟨vs, t _ h, Reps.same s r⟩
  | .dic _ _, .inl ⟨kvs, h, e, r⟩ => .inl ⟨kvs, t _ h, e, Reps.same s r⟩
  | .dic _ _, .inr ⟨kvs, h, e, r⟩ => .inr ⟨kvs, t _ h, e, Reps.same s r⟩
theorem OwAt.ow {p : PV} {a : Addr} : OwAt (.ow p, .ref a) a := ⟨⟨p, rfl⟩, rfl⟩
theorem OwAt.not_fz {p : PV} {v : V} {a : Addr} (h : OwAt (.fz p, v) a) : False := by
  obtain ⟨⟨q, e⟩, _⟩ := h
  cases e
theorem OwAt.not_br {i : Nat} {v : V} {a : Addr} (h : OwAt (.br i, v) a) : False := by
  obtain ⟨⟨q, e⟩, _⟩ := h
  cases e
/-- the state where what is held, the heap and the temporaries change so that all stays shown: the general step -/
theorem Sta.step {ts' : Ts} (S : Sta K G ρ ts σ H) (fr : ∀ b o, (∀ l s, G.sa = some (l, s) → b ≠ s) → ¬ Owns ρ ts σ b → H b = some o → H' b = some o) (ow : ∀ i e a, SlAt ρ σ i e → OwAt e a → ∀ o, H a = some o → H' a = some o)
    (sk : saOk G.sa H') (hn : ∀ a, Owns ρ ts' σ a → ¬ Owns ρ ts σ a → H a = none)
    (hO : ∀ a o, ¬ OA G ρ ts σ a → H a = some o → ¬ Owns ρ ts' σ a)
    (tmp : Same (msk (OA G ρ ts σ) H) (msk (OA G ρ ts' σ) H') → ∀ e ∈ ts', Tmp K G.sa (msk (OA G ρ ts' σ) H') H' σ e.1 e.2)
    (dX : ∀ i e f a, SlAt ρ σ i e → f ∈ ts' → OwAt e a → OwAt f a → False) (dT : ts'.Pairwise fun e f => ∀ a, OwAt e a → OwAt f a → False) (brn : ∀ e ∈ ts', ∀ i, e.1 = .br i → ∃ r, ρ[i]? = some (some r)) : Sta K G ρ ts' σ H' := by
  have sm : Same (msk (OA G ρ ts σ) H) (msk (OA G ρ ts' σ) H') := msk_same fun a o n e => by
    have n1 : ¬ Owns ρ ts σ a := fun z => n (.inl z)
    refine ⟨fun z => ?_, fr a o (fun l s e' z => n (.inr (z ▸ S.so l s e'))) n1 e⟩
    rcases z with z | z
    · exact hO a o n e z
    · exact n (.inr z)
  refine ⟨S.len, ?_, sk, S.so, S.lo, S.od, fun a ha => ?_, fun i r e => ?_, tmp sm, S.dS, dX, dT, brn⟩
  · intro b o nb e
    have h1 := S.fr b o nb e
    by_cases z : Owns ρ ts σ b
    · rw [S.new b z] at e
      cases e
    · exact fr b o nb z h1
  · by_cases z : Owns ρ ts σ a
    · exact S.new a z
    · have := hn a ha z
      cases q : G.H0 a with
      | none => rfl
      | some o =>
        by_cases ns : ∀ l s, G.sa = some (l, s) → a ≠ s
        · rw [S.fr a o ns q] at this
          cases this
        · have : ∃ l s, G.sa = some (l, s) ∧ a = s := Classical.byContradiction fun hc => ns fun l s e z => hc ⟨l, s, e, z⟩
          obtain ⟨l, s, e, rfl⟩ := this
          obtain ⟨_, _, _, _, _, _, h3, _⟩ := S.sk l a e
          rw [h3] at this
          cases this
  · obtain ⟨v, e1, e2⟩ := S.slot i r e
    refine ⟨v, e1, ?_⟩
    cases r with
    | fz p => exact Rep.same sm e2
    | ow p =>
      obtain ⟨a, rfl, o⟩ := e2
      exact ⟨a, rfl, o.same sm (ow i (.ow p, .ref a) a ⟨e, e1⟩ .ow)⟩
    | br j => exact e2
/-- nothing that is held changes, more may be there -/
theorem Sta.keep (S : Sta K G ρ ts σ H) (s : Same H H') (sk : saOk G.sa H') : Sta K G ρ ts σ H' := by
  refine S.step (fun b o _ _ e => s b o e) (fun _ _ _ _ _ o e => s _ _ e) sk (fun a h n => absurd h n) (fun a o n _ z => n (.inl z)) (fun sm e he => ?_) S.dX S.dT S.brn
  have t := S.tmp e he
  obtain ⟨r, v⟩ := e
  cases r with
  | fz p => exact Rep.same sm t
  | ow p =>
    obtain ⟨a, e, o⟩ := t
    exact ⟨a, e, o.same sm fun o e => s _ _ e⟩
  | br j => exact t
theorem Strm.same {l s : Addr} {H H' : Hp} (e : Same H H') (h : Strm l H s) : Strm l H' s := by
  obtain ⟨ne, ns, x, k, h1, h2, h3, h4⟩ := h
  exact ⟨ne, ns, x, k, e _ _ h1, h2, e _ _ h3, h4⟩
theorem saOk.same (e : Same H H') (h : saOk sa H) : saOk sa H' := fun l s q => Strm.same e (h l s q)
theorem same_new {a : Addr} {o : HO} (n : H a = none) : Same H (upd H a o) := fun b u e => by rw [upd_ne (ne_of_none e n)]; exact e
/-- the temporaries in another row, or fewer of them -/
theorem Sta.sub (S : Sta K G ρ ts σ H) (h : ∀ e ∈ ts', e ∈ ts) (d : ts'.Pairwise fun e f => ∀ a, OwAt e a → OwAt f a → False) : Sta K G ρ ts' σ H := by
  refine S.step (fun b o _ _ e => e) (fun _ _ _ _ _ o e => e) S.sk (fun a z n => ?_) (fun a o n _ z => ?_) (fun sm e he => ?_) (fun i e f a hs hf => S.dX i e f a hs (h f hf)) d (fun e he => S.brn e (h e he))
  · rcases z with z | ⟨e, he, z⟩
    · exact absurd (.inl z) n
    · exact absurd (.inr ⟨e, h e he, z⟩) n
  · rcases z with z | ⟨e, he, z⟩
    · exact n (.inl (.inl z))
    · exact n (.inl (.inr ⟨e, h e he, z⟩))
  · have t := S.tmp e (h e he)
    obtain ⟨r, v⟩ := e
    cases r with
    | fz p => exact Rep.same sm t
    | ow p =>
      obtain ⟨a, e, o⟩ := t
      exact ⟨a, e, o.same sm fun o e => e⟩
    | br j => exact t
theorem Sta.pop {e : AV × V} (S : Sta K G ρ (e :: ts) σ H) : Sta K G ρ ts σ H := S.sub (fun f h => List.mem_cons_of_mem _ h) (List.pairwise_cons.mp S.dT).2
theorem OwAt.symm {ts : Ts} : ∀ {e f : AV × V}, (∀ a, OwAt e a → OwAt f a → False) → ∀ a, OwAt f a → OwAt e a → False := fun h a x y => h a y x
theorem Sta.perm (S : Sta K G ρ ts σ H) (p : List.Perm ts ts') : Sta K G ρ ts' σ H := S.sub (fun e h => p.symm.subset h) (p.pairwise S.dT fun h a x y => h a y x)
/-- one more, frozen, of what is not held -/
theorem Sta.push {p : PV} {v : V} (S : Sta K G ρ ts σ H) (h : Rep K G.sa (msk (OA G ρ ts σ) H) p v) : Sta K G ρ ((.fz p, v) :: ts) σ H := by
  have eq : ∀ a, Owns ρ ((.fz p, v) :: ts) σ a → Owns ρ ts σ a := fun a z => by
    rcases z with z | ⟨e, he, z⟩
    · exact .inl z
    · rcases List.mem_cons.mp he with rfl | he
      · exact z.not_fz.elim
      · exact .inr ⟨e, he, z⟩
  refine S.step (fun b o _ _ e => e) (fun _ _ _ _ _ o e => e) S.sk (fun a z n => absurd (eq a z) n) (fun a o n _ z => n (.inl (eq a z))) (fun sm e he => ?_) (fun i e f a hs hf x y => ?_) (List.pairwise_cons.mpr ⟨fun f _ a x _ => x.not_fz, S.dT⟩) (fun e he i ei => by
    rcases List.mem_cons.mp he with rfl | he
    · cases ei
    · exact S.brn e he i ei)
  · rcases List.mem_cons.mp he with rfl | he
    · exact Rep.same sm h
    · have t := S.tmp e he
      obtain ⟨r, v⟩ := e
      cases r with
      | fz p => exact Rep.same sm t
      | ow p =>
        obtain ⟨a, e, o⟩ := t
        exact ⟨a, e, o.same sm fun o e => e⟩
      | br j => exact t
  · rcases List.mem_cons.mp hf with rfl | hf
    · exact y.not_fz
    · exact S.dX i e f a hs hf x y
theorem Sta.pushBr {i : Nat} {v : V} (S : Sta K G ρ ts σ H) (h : σ[i]? = some (some v)) (hr : ∃ r, ρ[i]? = some (some r)) : Sta K G ρ ((.br i, v) :: ts) σ H := by
  have eq : ∀ a, Owns ρ ((.br i, v) :: ts) σ a → Owns ρ ts σ a := fun a z => by
    rcases z with z | ⟨e, he, z⟩
    · exact .inl z
    · rcases List.mem_cons.mp he with rfl | he
      · exact z.not_br.elim
      · exact .inr ⟨e, he, z⟩
  refine S.step (fun b o _ _ e => e) (fun _ _ _ _ _ o e => e) S.sk (fun a z n => absurd (eq a z) n) (fun a o n _ z => n (.inl (eq a z))) (fun sm e he => ?_) (fun i e f a hs hf x y => ?_) (List.pairwise_cons.mpr ⟨fun f _ a x _ => x.not_br, S.dT⟩) (fun e he j ei => by
    rcases List.mem_cons.mp he with rfl | he
    · cases ei
      exact hr
    · exact S.brn e he j ei)
  · rcases List.mem_cons.mp he with rfl | he
    · exact h
    · have t := S.tmp e he
      obtain ⟨r, v⟩ := e
      cases r with
      | fz p => exact Rep.same sm t
      | ow p =>
        obtain ⟨a, e, o⟩ := t
        exact ⟨a, e, o.same sm fun o e => e⟩
      | br j => exact t
  · rcases List.mem_cons.mp hf with rfl | hf
    · exact y.not_br
    · exact S.dX i e f a hs hf x y
/-- scalars -/
def Sc : PV → V → Prop
  | .non, v => v = .non
  | .bl b, v => v = .bl b
  | .int i, v => v = .int i
  | .str x, v => v = .str x
  | _, _ => False
theorem Sc.rep : ∀ {p : PV} {v : V}, Sc p v → Rep K sa H p v
  | .non, _, h => by unfold Rep; exact h
  | .bl _, _, h => by unfold Rep; exact h
  | .int _, _, h => by unfold Rep; exact h
  | .str _, _, h => by unfold Rep; exact h
theorem Sta.pushSc {p : PV} {v : V} (S : Sta K G ρ ts σ H) (h : Sc p v) : Sta K G ρ ((.fz p, v) :: ts) σ H := S.push h.rep
/-- what is tracked in the heap is no held address if it is read as frozen -/
theorem Rep.ow_same (S : Sta K G ρ ts σ H) {a : Addr} (n : H a = none) : ¬ OA G ρ ts σ a := by
  rintro (z | z)
  · rcases z with ⟨i, e, hs, h⟩ | ⟨e, he, h⟩
    · obtain ⟨⟨p, hp⟩, hv⟩ := h
      obtain ⟨v, e1, e2⟩ := S.slot i e.1 hs.1
      rw [hp] at e2
      obtain ⟨b, e3, o⟩ := e2
      have := e1.symm.trans hs.2
      rw [hv] at this
      cases this
      cases e3
      cases p with
      | lst l => obtain ⟨vs, h, _⟩ := o; rw [n] at h; cases h
      | dic ks l => rcases o with ⟨kvs, h, _⟩ | ⟨kvs, h, _⟩ <;> (rw [n] at h; cases h)
      | _ => exact o
    · obtain ⟨⟨p, hp⟩, hv⟩ := h
      have t := S.tmp e he
      rw [hp] at t
      obtain ⟨b, e3, o⟩ := t
      rw [hv] at e3
      cases e3
      cases p with
      | lst l => obtain ⟨vs, h, _⟩ := o; rw [n] at h; cases h
      | dic ks l => rcases o with ⟨kvs, h, _⟩ | ⟨kvs, h, _⟩ <;> (rw [n] at h; cases h)
      | _ => exact o
  · by_cases ns : ∀ l s, G.sa = some (l, s) → a ≠ s
    · cases q : G.H0 a with
      | none => exact S.od a z q
      | some o =>
        rw [S.fr a o ns q] at n
        cases n
    · have : ∃ l s, G.sa = some (l, s) ∧ a = s := Classical.byContradiction fun hc => ns fun l s e z => hc ⟨l, s, e, z⟩
      obtain ⟨l, s, e, rfl⟩ := this
      obtain ⟨_, _, _, _, _, _, h3, _⟩ := S.sk l a e
      rw [h3] at n
      cases n
/-- a new object, frozen -/
theorem Sta.newF {a : Addr} {o : HO} {p : PV} (S : Sta K G ρ ts σ H) (n : H a = none) (h : Rep K G.sa (msk (OA G ρ ts σ) (upd H a o)) p (.ref a)) : Sta K G ρ ((.fz p, .ref a) :: ts) σ (upd H a o) :=
  (S.keep (same_new n) (saOk.same (same_new n) S.sk)).push h
/-- a new object, held -/
theorem Sta.newO {a : Addr} {o : HO} {p : PV} (S : Sta K G ρ ts σ H) (n : H a = none) (h : Obj1 K G.sa (msk (OA G ρ ts σ) H) (upd H a o) a p) : Sta K G ρ ((.ow p, .ref a) :: ts) σ (upd H a o) := by
  have na := Rep.ow_same S n
  have s : Same H (upd H a o) := same_new n
  have eq : ∀ b, Owns ρ ((.ow p, .ref a) :: ts) σ b → b = a ∨ Owns ρ ts σ b := fun b z => by
    rcases z with z | ⟨e, he, z⟩
    · exact .inr (.inl z)
    · rcases List.mem_cons.mp he with rfl | he
      · obtain ⟨_, e⟩ := z
        cases e
        exact .inl rfl
      · exact .inr (.inr ⟨e, he, z⟩)
  have ne : ∀ e : AV × V, OwAt e a → (∃ i, SlAt ρ σ i e) ∨ e ∈ ts → False := fun e h m => na (.inl (m.elim (fun ⟨i, m⟩ => .inl ⟨i, e, m, h⟩) fun m => .inr ⟨e, m, h⟩))
  refine S.step (fun b o _ _ e => s b o e) (fun _ _ _ _ _ o e => s _ _ e) (saOk.same s S.sk) (fun b z nb => ?_) (fun b u nb e z => ?_) (fun sm e he => ?_) (fun i e f b hs hf x y => ?_) (List.pairwise_cons.mpr ⟨fun f hf b x y => ?_, S.dT⟩) (fun e he j ei => by
    rcases List.mem_cons.mp he with rfl | he
    · cases ei
    · exact S.brn e he j ei)
  · rcases eq b z with rfl | z
    · exact n
    · exact absurd z nb
  · rcases eq b z with rfl | z
    · rw [n] at e
      cases e
    · exact nb (.inl z)
  · rcases List.mem_cons.mp he with rfl | he
    · exact ⟨a, rfl, h.same sm fun o e => e⟩
    · have t := S.tmp e he
      obtain ⟨r, v⟩ := e
      cases r with
      | fz p => exact Rep.same sm t
      | ow p =>
        obtain ⟨a, e, o⟩ := t
        exact ⟨a, e, o.same sm fun o e => s _ _ e⟩
      | br j => exact t
  · rcases List.mem_cons.mp hf with rfl | hf
    · obtain ⟨_, e2⟩ := y
      cases e2
      exact ne e x (.inl ⟨i, hs⟩)
    · exact S.dX i e f b hs hf x y
  · obtain ⟨_, e2⟩ := x
    cases e2
    exact ne f y (.inr hf)
/-- a held temporary is let go: frozen -/
theorem Sta.frz {p : PV} {v : V} (S : Sta K G ρ ((.ow p, v) :: ts) σ H) : Sta K G ρ ((.fz p, v) :: ts) σ H := by
  obtain ⟨a, ev, o⟩ := S.tmp _ List.mem_cons_self
  obtain rfl : v = .ref a := ev
  have eq : ∀ b, Owns ρ ((.fz p, .ref a) :: ts) σ b → Owns ρ ((.ow p, .ref a) :: ts) σ b := fun b z => by
    rcases z with z | ⟨e, he, z⟩
    · exact .inl z
    · rcases List.mem_cons.mp he with rfl | he
      · exact z.not_fz.elim
      · exact .inr ⟨e, List.mem_cons_of_mem _ he, z⟩
  have na : ¬ OA G ρ ((.fz p, .ref a) :: ts) σ a := by
    rintro (z | z)
    · rcases z with ⟨i, e, hs, h⟩ | ⟨e, he, h⟩
      · exact S.dX i e _ a hs List.mem_cons_self h .ow
      · rcases List.mem_cons.mp he with rfl | he
        · exact h.not_fz
        · exact (List.pairwise_cons.mp S.dT).1 e he a .ow h
    · exact S.od a z (S.new a (.inr ⟨_, List.mem_cons_self, .ow⟩))
  refine S.step (fun b o _ _ e => e) (fun _ _ _ _ _ o e => e) S.sk (fun b z nb => absurd (eq b z) nb) (fun b u nb e z => nb (.inl (eq b z))) (fun sm e he => ?_) (fun i e f b hs hf x y => ?_) (List.pairwise_cons.mpr ⟨fun f hf b x y => x.not_fz, (List.pairwise_cons.mp S.dT).2⟩) (fun e he j ei => by
    rcases List.mem_cons.mp he with rfl | he
    · cases ei
    · exact S.brn e (List.mem_cons_of_mem _ he) j ei)
  · rcases List.mem_cons.mp he with rfl | he
    · show Rep K G.sa _ p (.ref a)
      cases p with
      | lst l =>
        obtain ⟨vs, h, r⟩ := o
        unfold Rep
        exact ⟨a, vs, rfl, by rw [msk_of na]; exact h, Reps.same sm r⟩
      | dic ks l =>
        unfold Rep
        rcases o with ⟨kvs, h, e, r⟩ | ⟨kvs, h, e, r⟩
        · exact ⟨a, _, rfl, .inl ⟨kvs, .inl (by rw [msk_of na]; exact h), e, rfl⟩, Reps.same sm r⟩
        · exact ⟨a, _, rfl, .inr ⟨kvs, .inl (by rw [msk_of na]; exact h), e, rfl⟩, Reps.same sm r⟩
      | _ => exact o.elim
    · have t := S.tmp e (List.mem_cons_of_mem _ he)
      obtain ⟨r, v⟩ := e
      cases r with
      | fz p => exact Rep.same sm t
      | ow p =>
        obtain ⟨a, e, o⟩ := t
        exact ⟨a, e, o.same sm fun o e => e⟩
      | br j => exact t
  · rcases List.mem_cons.mp hf with rfl | hf
    · exact y.not_fz
    · exact S.dX i e f b hs (List.mem_cons_of_mem _ hf) x y
end SyP
set_option autoImplicit false
/-! Pure words 2: slots stored, let go and changed; what comes back of a call. -/
namespace SyP
open PySem PySem.Spec PyProof.Rows L2 Sy
variable {K : PySem.W.Frag} {sa : SA} {H H' : Hp} {G : Gh} {ρ ρ' : En} {ts ts' : Ts} {σ σ' : L2.St}
theorem Sta.h0 (S : Sta K G ρ ts σ H) {a : Addr} (n : H a = none) : G.H0 a = none := by
  cases q : G.H0 a with
  | none => rfl
  | some o =>
    by_cases ns : ∀ l s, G.sa = some (l, s) → a ≠ s
    · rw [S.fr a o ns q] at n
      cases n
    · have : ∃ l s, G.sa = some (l, s) ∧ a = s := Classical.byContradiction fun hc => ns fun l s e z => hc ⟨l, s, e, z⟩
      obtain ⟨l, s, e, rfl⟩ := this
      obtain ⟨_, _, _, _, _, _, h3, _⟩ := S.sk l a e
      rw [h3] at n
      cases n
theorem Sta.gen (S : Sta K G ρ ts σ H) (len : ρ'.length = σ'.length) (fr : ∀ b o, (∀ l s, G.sa = some (l, s) → b ≠ s) → ¬ Owns ρ ts σ b → H b = some o → H' b = some o)
    (sk : saOk G.sa H') (hn : ∀ a, Owns ρ' ts' σ' a → ¬ Owns ρ ts σ a → H a = none) (hO : ∀ a o, ¬ OA G ρ ts σ a → H a = some o → ¬ Owns ρ' ts' σ' a)
    (slot : Same (msk (OA G ρ ts σ) H) (msk (OA G ρ' ts' σ') H') → ∀ (i : Nat) (r : AV), ρ'[i]? = some (some r) → ∃ v, σ'[i]? = some (some v) ∧ Ent K G.sa (msk (OA G ρ' ts' σ') H') H' r v)
    (tmp : Same (msk (OA G ρ ts σ) H) (msk (OA G ρ' ts' σ') H') → ∀ e ∈ ts', Tmp K G.sa (msk (OA G ρ' ts' σ') H') H' σ' e.1 e.2)
    (dS : ∀ i j e f a, SlAt ρ' σ' i e → SlAt ρ' σ' j f → OwAt e a → OwAt f a → i = j)
    (dX : ∀ i e f a, SlAt ρ' σ' i e → f ∈ ts' → OwAt e a → OwAt f a → False) (dT : ts'.Pairwise fun e f => ∀ a, OwAt e a → OwAt f a → False) (brn : ∀ e ∈ ts', ∀ i, e.1 = .br i → ∃ r, ρ'[i]? = some (some r)) : Sta K G ρ' ts' σ' H' := by
  have sm : Same (msk (OA G ρ ts σ) H) (msk (OA G ρ' ts' σ') H') := msk_same fun a o n e => by
    have n1 : ¬ Owns ρ ts σ a := fun z => n (.inl z)
    refine ⟨fun z => ?_, fr a o (fun l s e' z => n (.inr (z ▸ S.so l s e'))) n1 e⟩
    rcases z with z | z
    · exact hO a o n e z
    · exact n (.inr z)
  refine ⟨len, ?_, sk, S.so, S.lo, S.od, fun a ha => ?_, slot sm, tmp sm, dS, dX, dT, brn⟩
  · intro b o nb e
    have h1 := S.fr b o nb e
    by_cases z : Owns ρ ts σ b
    · rw [S.new b z] at e
      cases e
    · exact fr b o nb z h1
  · by_cases z : Owns ρ ts σ a
    · exact S.new a z
    · exact S.h0 (hn a ha z)
theorem SlAt.set_ne {i j : Nat} {x : Option AV} {y : Option V} {e : AV × V} (h : SlAt (ρ.set i x) (σ.set i y) j e) (n : j ≠ i) : SlAt ρ σ j e := by
  obtain ⟨a, b⟩ := h
  rw [List.getElem?_set_ne (Ne.symm n)] at a b
  exact ⟨a, b⟩
theorem SlAt.set_eq {i : Nat} {x : Option AV} {y : Option V} {e : AV × V} (h : SlAt (ρ.set i x) (σ.set i y) i e) : x = some e.1 ∧ y = some e.2 := by
  obtain ⟨a, b⟩ := h
  have l1 : i < ρ.length := by
    have := (List.getElem?_eq_some_iff.mp a).1
    rwa [List.length_set] at this
  have l2 : i < σ.length := by
    have := (List.getElem?_eq_some_iff.mp b).1
    rwa [List.length_set] at this
  rw [List.getElem?_set_self l1] at a
  rw [List.getElem?_set_self l2] at b
  exact ⟨Option.some.inj a, Option.some.inj b⟩
theorem set_self_get {α : Type} {l : List α} {i : Nat} {x : α} (h : l[i]? = some x) : l.set i x = l := by
  refine List.ext_getElem? fun j => ?_
  by_cases e : i = j
  · subst e
    rw [List.getElem?_set_self (List.getElem?_eq_some_iff.mp h).1, h]
  · rw [List.getElem?_set_ne e]
/-- a slot that holds a list or dict alone lets it go -/
theorem Sta.frzSlot {i : Nat} {p : PV} (S : Sta K G ρ ts σ H) (h : ρ[i]? = some (some (.ow p))) : Sta K G (ρ.set i (some (.fz p))) ts σ H := by
  obtain ⟨v, hv, a, rfl, o⟩ := S.slot i _ h
  have eσ : σ.set i (some (V.ref a)) = σ := set_self_get hv
  have li : i < ρ.length := (List.getElem?_eq_some_iff.mp h).1
  have sl : ∀ {j : Nat} {e : AV × V}, SlAt (ρ.set i (some (.fz p))) σ j e → (j = i ∧ e = (.fz p, .ref a)) ∨ (j ≠ i ∧ SlAt ρ σ j e) := fun {j e} q => by
    by_cases z : j = i
    · subst z
      rw [← eσ] at q
      obtain ⟨e1, e2⟩ := q.set_eq
      obtain ⟨e3, e4⟩ := e
      cases e1
      cases e2
      exact .inl ⟨rfl, rfl⟩
    · rw [← eσ] at q
      exact .inr ⟨z, q.set_ne z⟩
  have eq : ∀ b, Owns (ρ.set i (some (.fz p))) ts σ b → Owns ρ ts σ b := fun b z => by
    rcases z with ⟨j, e, hs, z⟩ | z
    · rcases sl hs with ⟨_, rfl⟩ | ⟨_, hs⟩
      · exact z.not_fz.elim
      · exact .inl ⟨j, e, hs, z⟩
    · exact .inr z
  have na : ¬ OA G (ρ.set i (some (.fz p))) ts σ a := by
    rintro (z | z)
    · rcases z with ⟨j, e, hs, z⟩ | ⟨e, he, z⟩
      · rcases sl hs with ⟨_, rfl⟩ | ⟨n, hs⟩
        · exact z.not_fz
        · exact n (S.dS j i e (.ow p, .ref a) a hs ⟨h, hv⟩ z .ow)
      · exact S.dX i (.ow p, .ref a) e a ⟨h, hv⟩ he .ow z
    · exact S.od a z (S.new a (.inl ⟨i, (.ow p, .ref a), ⟨h, hv⟩, .ow⟩))
  refine S.gen (by rw [List.length_set]; exact S.len) (fun b o _ _ e => e) S.sk (fun b z nb => absurd (eq b z) nb) (fun b u nb e z => nb (.inl (eq b z))) (fun sm j r e => ?_) (fun sm e he => ?_) (fun j k e f b hs hf x y => ?_) (fun j e f b hs hf x y => ?_) S.dT (fun e he j ej => by
    by_cases z : j = i
    · subst z
      exact ⟨_, List.getElem?_set_self li⟩
    · rw [List.getElem?_set_ne (Ne.symm z)]
      exact S.brn e he j ej)
  · by_cases z : j = i
    · subst z
      rw [List.getElem?_set_self li] at e
      cases e
      refine ⟨_, hv, ?_⟩
      show Rep K G.sa _ p (.ref a)
      cases p with
      | lst l =>
        obtain ⟨vs, h, r⟩ := o
        unfold Rep
        exact ⟨a, vs, rfl, by rw [msk_of na]; exact h, Reps.same sm r⟩
      | dic ks l =>
        unfold Rep
        rcases o with ⟨kvs, h, e, r⟩ | ⟨kvs, h, e, r⟩
        · exact ⟨a, _, rfl, .inl ⟨kvs, .inl (by rw [msk_of na]; exact h), e, rfl⟩, Reps.same sm r⟩
        · exact ⟨a, _, rfl, .inr ⟨kvs, .inl (by rw [msk_of na]; exact h), e, rfl⟩, Reps.same sm r⟩
      | _ => exact o.elim
    · rw [List.getElem?_set_ne (Ne.symm z)] at e
      obtain ⟨v, e1, e2⟩ := S.slot j r e
      refine ⟨v, e1, ?_⟩
      cases r with
      | fz p => exact Rep.same sm e2
      | ow p =>
        obtain ⟨b, rfl, o⟩ := e2
        exact ⟨b, rfl, o.same sm fun o e => e⟩
      | br j => exact e2
  · have t := S.tmp e he
    obtain ⟨r, v⟩ := e
    cases r with
    | fz p => exact Rep.same sm t
    | ow p =>
      obtain ⟨b, e, o⟩ := t
      exact ⟨b, e, o.same sm fun o e => e⟩
    | br j => exact t
  · rcases sl hs with ⟨_, rfl⟩ | ⟨_, hs⟩
    · exact x.not_fz.elim
    · rcases sl hf with ⟨_, rfl⟩ | ⟨_, hf⟩
      · exact y.not_fz.elim
      · exact S.dS j k e f b hs hf x y
  · rcases sl hs with ⟨_, rfl⟩ | ⟨_, hs⟩
    · exact x.not_fz
    · exact S.dX j e f b hs hf x y
/-- the head of the temporaries is stored at a slot; no other temporary looks at a slot -/
theorem Sta.store {i : Nat} {r : AV} {v : V} (S : Sta K G ρ [(r, v)] σ H) (nb : ∀ j, r ≠ .br j) (li : i < ρ.length) : Sta K G (ρ.set i (some r)) [] (σ.set i (some v)) H := by
  have lσ : i < σ.length := by rw [← S.len]; exact li
  have sl : ∀ {j : Nat} {e : AV × V}, SlAt (ρ.set i (some r)) (σ.set i (some v)) j e → (j = i ∧ e = (r, v)) ∨ (j ≠ i ∧ SlAt ρ σ j e) := fun {j e} q => by
    by_cases z : j = i
    · subst z
      obtain ⟨e1, e2⟩ := q.set_eq
      obtain ⟨e3, e4⟩ := e
      cases e1
      cases e2
      exact .inl ⟨rfl, rfl⟩
    · exact .inr ⟨z, q.set_ne z⟩
  have eq : ∀ b, Owns (ρ.set i (some r)) [] (σ.set i (some v)) b → Owns ρ [(r, v)] σ b := fun b z => by
    rcases z with ⟨j, e, hs, z⟩ | ⟨e, he, _⟩
    · rcases sl hs with ⟨_, rfl⟩ | ⟨_, hs⟩
      · exact .inr ⟨_, List.mem_cons_self, z⟩
      · exact .inl ⟨j, e, hs, z⟩
    · cases he
  refine S.gen (by rw [List.length_set, List.length_set]; exact S.len) (fun b o _ _ e => e) S.sk (fun b z nb => absurd (eq b z) nb) (fun b u nb e z => nb (.inl (eq b z))) (fun sm j q e => ?_) (fun sm e he => by cases he) (fun j k e f b hs hf x y => ?_) (fun j e f b hs hf x y => by cases hf) .nil (fun e he => by cases he)
  · by_cases z : j = i
    · subst z
      rw [List.getElem?_set_self li] at e
      cases e
      refine ⟨_, List.getElem?_set_self lσ, ?_⟩
      have t := S.tmp _ List.mem_cons_self
      cases r with
      | fz p => exact Rep.same sm t
      | ow p =>
        obtain ⟨b, e, o⟩ := t
        exact ⟨b, e, o.same sm fun o e => e⟩
      | br j => exact absurd rfl (nb j)
    · rw [List.getElem?_set_ne (Ne.symm z)] at e
      obtain ⟨u, e1, e2⟩ := S.slot j q e
      refine ⟨u, by rw [List.getElem?_set_ne (Ne.symm z)]; exact e1, ?_⟩
      cases q with
      | fz p => exact Rep.same sm e2
      | ow p =>
        obtain ⟨b, rfl, o⟩ := e2
        exact ⟨b, rfl, o.same sm fun o e => e⟩
      | br j => exact e2
  · rcases sl hs with ⟨z1, rfl⟩ | ⟨z1, hs⟩
    · rcases sl hf with ⟨z2, rfl⟩ | ⟨z2, hf⟩
      · rw [z1, z2]
      · exact (S.dX k f (r, v) b hf List.mem_cons_self y x).elim
    · rcases sl hf with ⟨z2, rfl⟩ | ⟨z2, hf⟩
      · exact (S.dX j e (r, v) b hs List.mem_cons_self x y).elim
      · exact S.dS j k e f b hs hf x y
/-- what a slot holds alone is changed -/
theorem Sta.mut {i : Nat} {p p' : PV} {a : Addr} {o : HO} (S : Sta K G ρ ts σ H) (h : ρ[i]? = some (some (.ow p))) (hv : σ[i]? = some (some (.ref a)))
    (hx : Obj1 K G.sa (msk (OA G ρ ts σ) H) (upd H a o) a p') : Sta K G (ρ.set i (some (.ow p'))) ts σ (upd H a o) := by
  have eσ : σ.set i (some (V.ref a)) = σ := set_self_get hv
  have li : i < ρ.length := (List.getElem?_eq_some_iff.mp h).1
  have oa : Owns ρ ts σ a := .inl ⟨i, (.ow p, .ref a), ⟨h, hv⟩, .ow⟩
  have h0a : G.H0 a = none := S.new a oa
  have sk : saOk G.sa (upd H a o) := fun l s e => by
    obtain ⟨ne, ns, x, k, h1, h2, h3, h4⟩ := S.sk l s e
    have n1 : s ≠ a := fun z => S.od a (z ▸ S.so l s e) h0a
    have n2 : l ≠ a := fun z => S.lo l s e (z ▸ h0a)
    exact ⟨ne, ns, x, k, by rw [upd_ne n2]; exact h1, h2, by rw [upd_ne n1]; exact h3, h4⟩
  have sl : ∀ {j : Nat} {e : AV × V}, SlAt (ρ.set i (some (.ow p'))) σ j e → (j = i ∧ e = (.ow p', .ref a)) ∨ (j ≠ i ∧ SlAt ρ σ j e) := fun {j e} q => by
    by_cases z : j = i
    · subst z
      rw [← eσ] at q
      obtain ⟨e1, e2⟩ := q.set_eq
      obtain ⟨e3, e4⟩ := e
      cases e1
      cases e2
      exact .inl ⟨rfl, rfl⟩
    · rw [← eσ] at q
      exact .inr ⟨z, q.set_ne z⟩
  have eq : ∀ b, Owns (ρ.set i (some (.ow p'))) ts σ b → Owns ρ ts σ b := fun b z => by
    rcases z with ⟨j, e, hs, z⟩ | z
    · rcases sl hs with ⟨_, rfl⟩ | ⟨_, hs⟩
      · obtain ⟨_, e⟩ := z
        cases e
        exact oa
      · exact .inl ⟨j, e, hs, z⟩
    · exact .inr z
  refine S.gen (by rw [List.length_set]; exact S.len) (fun b u _ n e => ?_) sk (fun b z nb => absurd (eq b z) nb) (fun b u nb e z => nb (.inl (eq b z))) (fun sm j r e => ?_) (fun sm e he => ?_) (fun j k e f b hs hf x y => ?_) (fun j e f b hs hf x y => ?_) S.dT (fun e he j ej => by
    by_cases z : j = i
    · subst z
      exact ⟨_, List.getElem?_set_self li⟩
    · rw [List.getElem?_set_ne (Ne.symm z)]
      exact S.brn e he j ej)
  · rw [upd_ne (show b ≠ a from fun z => n (z ▸ oa))]
    exact e
  · by_cases z : j = i
    · subst z
      rw [List.getElem?_set_self li] at e
      cases e
      exact ⟨_, hv, a, rfl, hx.same sm fun o e => e⟩
    · rw [List.getElem?_set_ne (Ne.symm z)] at e
      obtain ⟨v, e1, e2⟩ := S.slot j r e
      refine ⟨v, e1, ?_⟩
      cases r with
      | fz p => exact Rep.same sm e2
      | ow q =>
        obtain ⟨b, rfl, ob⟩ := e2
        have nb : b ≠ a := fun w => z (S.dS j i (.ow q, .ref b) (.ow p, .ref a) a ⟨e, e1⟩ ⟨h, hv⟩ (w ▸ .ow) .ow)
        exact ⟨b, rfl, ob.same sm fun o e => by rw [upd_ne nb]; exact e⟩
      | br j => exact e2
  · have t := S.tmp e he
    obtain ⟨r, v⟩ := e
    cases r with
    | fz p => exact Rep.same sm t
    | ow q =>
      obtain ⟨b, e, ob⟩ := t
      obtain rfl : v = .ref b := e
      have nb : b ≠ a := fun w => S.dX i (.ow p, .ref a) _ a ⟨h, hv⟩ he .ow (w ▸ .ow)
      exact ⟨b, rfl, ob.same sm fun o e => by rw [upd_ne nb]; exact e⟩
    | br j => exact t
  · rcases sl hs with ⟨z1, rfl⟩ | ⟨z1, hs⟩
    · rcases sl hf with ⟨z2, rfl⟩ | ⟨z2, hf⟩
      · rw [z1, z2]
      · obtain ⟨_, e⟩ := x
        cases e
        exact (z2 (S.dS k i f (.ow p, .ref a) a hf ⟨h, hv⟩ y .ow)).elim
    · rcases sl hf with ⟨z2, rfl⟩ | ⟨z2, hf⟩
      · obtain ⟨_, e⟩ := y
        cases e
        exact (z1 (S.dS j i e (.ow p, .ref a) a hs ⟨h, hv⟩ x .ow)).elim
      · exact S.dS j k e f b hs hf x y
  · rcases sl hs with ⟨z1, rfl⟩ | ⟨z1, hs⟩
    · obtain ⟨_, e⟩ := x
      cases e
      exact S.dX i (.ow p, .ref a) f a ⟨h, hv⟩ hf .ow y
    · exact S.dX j e f b hs hf x y
/-- what comes back of a call: frozen, or new and held -/
def Retn (K : PySem.W.Frag) (G : Gh) (r : AV) (v : V) (H' : Hp) : Prop := Fra G.sa G.H0 H' ∧ saOk G.sa H' ∧ match r with
  | .fz p => Rep K G.sa (msk G.O H') p v
  | .ow p => ∃ a, v = .ref a ∧ G.H0 a = none ∧ Obj1 K G.sa (msk (fun b => b = a ∨ G.O b) H') H' a p
  | .br _ => False
/-- behind a call of a def that was given frozen values -/
theorem Sta.ret {r : AV} {v : V} (S : Sta K G ρ ts σ H) (h : Retn K ⟨G.sa, H, OA G ρ ts σ⟩ r v H') : Sta K G ρ ((r, v) :: ts) σ H' := by
  obtain ⟨fr, sk, h⟩ := h
  have fr : Fra G.sa H H' := fr
  have nst : ∀ {a : Addr}, Owns ρ ts σ a → ∀ l s, G.sa = some (l, s) → a ≠ s := fun {a} ha l s e z => S.od a (z ▸ S.so l s e) (S.new a ha)
  have kp : ∀ {a : Addr} {o : HO}, Owns ρ ts σ a → H a = some o → H' a = some o := fun {a o} ha e => fr a o (nst ha) e
  cases r with
  | br j => exact h.elim
  | fz p =>
    have h : Rep K G.sa (msk (OA G ρ ts σ) H') p v := h
    refine Sta.push (S.gen S.len (fun b o n _ e => fr b o n e) sk (fun a h n => absurd h n) (fun a o n _ z => n (.inl z)) (fun sm i r e => ?_) (fun sm e he => ?_) S.dS S.dX S.dT S.brn) h
    · obtain ⟨u, e1, e2⟩ := S.slot i r e
      refine ⟨u, e1, ?_⟩
      cases r with
      | fz p => exact Rep.same sm e2
      | ow p =>
        obtain ⟨b, rfl, ob⟩ := e2
        exact ⟨b, rfl, ob.same sm fun o q => kp (.inl ⟨i, (.ow p, .ref b), ⟨e, e1⟩, .ow⟩) q⟩
      | br j => exact e2
    · have t := S.tmp e he
      obtain ⟨r, u⟩ := e
      cases r with
      | fz p => exact Rep.same sm t
      | ow p =>
        obtain ⟨b, e, ob⟩ := t
        obtain rfl : u = .ref b := e
        exact ⟨b, rfl, ob.same sm fun o q => kp (.inr ⟨_, he, .ow⟩) q⟩
      | br j => exact t
  | ow p =>
    obtain ⟨a, rfl, ha, ob⟩ := h
    have ha : H a = none := ha
    have na := Rep.ow_same S ha
    have ob : Obj1 K G.sa (msk (fun b => b = a ∨ OA G ρ ts σ b) H') H' a p := ob
    have eq : ∀ b, Owns ρ ((.ow p, .ref a) :: ts) σ b → b = a ∨ Owns ρ ts σ b := fun b z => by
      rcases z with z | ⟨e, he, z⟩
      · exact .inr (.inl z)
      · rcases List.mem_cons.mp he with rfl | he
        · obtain ⟨_, e⟩ := z
          cases e
          exact .inl rfl
        · exact .inr (.inr ⟨e, he, z⟩)
    have ne : ∀ e : AV × V, OwAt e a → (∃ i, SlAt ρ σ i e) ∨ e ∈ ts → False := fun e h m => na (.inl (m.elim (fun ⟨i, m⟩ => .inl ⟨i, e, m, h⟩) fun m => .inr ⟨e, m, h⟩))
    have smo : Same (msk (fun b => b = a ∨ OA G ρ ts σ b) H') (msk (OA G ρ ((.ow p, .ref a) :: ts) σ) H') := msk_same fun b o n e => by
      refine ⟨fun z => n ?_, e⟩
      rcases z with z | z
      · exact (eq b z).imp id fun z => .inl z
      · exact .inr (.inr z)
    refine S.gen S.len (fun b o n _ e => fr b o n e) sk (fun b z nb => ?_) (fun b u nb e z => ?_) (fun sm i r e => ?_) (fun sm e he => ?_) S.dS (fun i e f b hs hf x y => ?_) (List.pairwise_cons.mpr ⟨fun f hf b x y => ?_, S.dT⟩) (fun e he j ei => by
      rcases List.mem_cons.mp he with rfl | he
      · cases ei
      · exact S.brn e he j ei)
    · rcases eq b z with rfl | z
      · exact ha
      · exact absurd z nb
    · rcases eq b z with rfl | z
      · rw [ha] at e
        cases e
      · exact nb (.inl z)
    · obtain ⟨u, e1, e2⟩ := S.slot i r e
      refine ⟨u, e1, ?_⟩
      cases r with
      | fz p => exact Rep.same sm e2
      | ow p =>
        obtain ⟨b, rfl, ob⟩ := e2
        exact ⟨b, rfl, ob.same sm fun o q => kp (.inl ⟨i, (.ow p, .ref b), ⟨e, e1⟩, .ow⟩) q⟩
      | br j => exact e2
    · rcases List.mem_cons.mp he with rfl | he
      · exact ⟨a, rfl, ob.same smo fun o e => e⟩
      · have t := S.tmp e he
        obtain ⟨r, u⟩ := e
        cases r with
        | fz p => exact Rep.same sm t
        | ow p =>
          obtain ⟨b, e, ob⟩ := t
          obtain rfl : u = .ref b := e
          exact ⟨b, rfl, ob.same sm fun o q => kp (.inr ⟨_, he, .ow⟩) q⟩
        | br j => exact t
    · rcases List.mem_cons.mp hf with rfl | hf
      · obtain ⟨_, e2⟩ := y
        cases e2
        exact ne e x (.inl ⟨i, hs⟩)
      · exact S.dX i e f b hs hf x y
    · obtain ⟨_, e2⟩ := x
      cases e2
      exact ne f y (.inr hf)
/-- what a def was given, all frozen: its ghost -/
theorem Sta.argsRep : ∀ {ps : List PV} {vs : List V} {ts : Ts}, vs.length = ps.length → Sta K G ρ (((ps.map AV.fz).zip vs) ++ ts) σ H → Reps K G.sa (msk (OA G ρ ts σ) H) ps vs
  | [], [], _, _, _ => Reps.nil
  | p :: ps, v :: vs, ts, hl, S => by
    have hl : vs.length = ps.length := Nat.succ.inj hl
    have t := S.tmp _ List.mem_cons_self
    have eq : ∀ {qs : List PV} {us : List V} {b : Addr}, Owns ρ (((qs.map AV.fz).zip us) ++ ts) σ b → Owns ρ ts σ b := fun {qs us b} z => by
      rcases z with z | ⟨e, he, z⟩
      · exact .inl z
      · rcases List.mem_append.mp he with he | he
        · obtain ⟨x, y⟩ := e
          have := (List.of_mem_zip he).1
          obtain ⟨q, _, rfl⟩ := List.mem_map.mp this
          exact z.not_fz.elim
        · exact .inr ⟨e, he, z⟩
    refine Reps.cons (Rep.same (msk_same fun a o n e => ⟨fun z => n (z.imp (fun z => ?_) id), e⟩) t) (Sta.argsRep hl S.pop)
    rcases z with z | ⟨e, he, z⟩
    · exact .inl z
    · exact .inr ⟨e, List.mem_cons_of_mem _ (List.mem_append_right _ he), z⟩
end SyP
set_option autoImplicit false
/-! Pure words 3: the judgements, expressions. -/
namespace SyP
open PySem PySem.Spec PyProof.Rows L2 Sy
/-- an exception as a tree: its class, its fields -/
structure PX where
  nm : Str
  fs : List (Str × PV)
/-- what a text of the program leans on -/
structure CC where
  K : PySem.W.Frag
  mg : Str → Option Value
  E0 : XK
abbrev PQ := AV → En → Prop
abbrev WE := En → PQ → (PX → Prop) → Prop
abbrev WT := En → (Bool → En → Prop) → (PX → Prop) → Prop
abbrev WA := En → (List AV → En → Prop) → (PX → Prop) → Prop
def ExR (C : CC) (G : Gh) (e : PX) (cls : Value) (d : Option Addr) (H' : Hp) : Prop :=
  Fra G.sa G.H0 H' ∧ saOk G.sa H' ∧ ∃ A dx vs, C.mg e.nm = some (.ref A) ∧ cls = .ref A ∧ d = some dx ∧ H' dx = some (.xd ((e.fs.map (·.1)).zip vs)) ∧ Reps C.K G.sa (msk G.O H') (e.fs.map (·.2)) vs
def EEx (C : CC) (G : Gh) (E : PX → Prop) : Prop := ∀ e, E e → ∀ cls d H', ExR C G e cls d H' → C.E0 cls d H'
def tP (C : CC) (w : WE) : TE := fun σ H Q => ∃ G ρ ts Q' E', Sta C.K G ρ ts σ H ∧ w ρ Q' E' ∧ (∀ r ρ', Q' r ρ' → ∀ v H', Sta C.K G ρ' ((r, v) :: ts) σ H' → Q v H') ∧ EEx C G E'
def tPT (C : CC) (w : WT) : TT := fun σ H Q => ∃ G ρ ts Q' E', Sta C.K G ρ ts σ H ∧ w ρ Q' E' ∧ (∀ b ρ', Q' b ρ' → ∀ H', Sta C.K G ρ' ts σ H' → Q b H') ∧ EEx C G E'
def tPA (C : CC) (w : WA) : TA := fun σ H Q => ∃ G ρ ts Q' E', Sta C.K G ρ ts σ H ∧ w ρ Q' E' ∧ (∀ rs ρ', Q' rs ρ' → ∀ vs H', vs.length = rs.length → Sta C.K G ρ' (rs.zip vs ++ ts) σ H' → Q vs H') ∧ EEx C G E'
theorem PE.imp {X : Cx} {e : Expr} {t t' : TE} (h : PE X e t) (i : ∀ σ H Q, t' σ H Q → t σ H Q) : PE X e t' := ⟨fun pins s σ H Q I q => h.run pins s σ H Q I (i σ H Q q)⟩
theorem PT.imp {X : Cx} {e : Expr} {t t' : TT} (h : PT X e t) (i : ∀ σ H Q, t' σ H Q → t σ H Q) : PT X e t' := ⟨fun pins s σ H Q I q => h.run pins s σ H Q I (i σ H Q q)⟩
theorem PA.imp {X : Cx} {e : List Expr} {t t' : TA} (h : PA X e t) (i : ∀ σ H Q, t' σ H Q → t σ H Q) : PA X e t' := ⟨fun pos pins s σ H Q I q => h.run pos pins s σ H Q I (i σ H Q q)⟩
/-! ### what one sees of a value -/
def look (ρ : En) : AV → Option PV
  | .fz p => some p
  | .ow p => some p
  | .br i => match ρ[i]? with
    | some (some (.fz p)) => some p
    | some (some (.ow p)) => some p
    | _ => none
/-- a value whose own object may be held -/
def Top (K : PySem.W.Frag) (sa : SA) (Hm H : Hp) : PV → V → Prop
  | .lst l, v => ∃ a vs, v = .ref a ∧ H a = some (.lst vs) ∧ Reps K sa Hm l vs
  | .dic ks l, v => ∃ a vs, v = .ref a ∧ HD H a ks vs ∧ Reps K sa Hm l vs
  | .tup l, v => ∃ a vs, v = .ref a ∧ SqT K H a vs ∧ Reps K sa Hm l vs
  | p, v => Rep K sa Hm p v
variable {K : PySem.W.Frag} {sa : SA} {H H' : Hp} {G : Gh} {ρ ρ' : En} {ts ts' : Ts} {σ σ' : L2.St} {C : CC}
theorem Rep.top {P : Addr → Prop} : ∀ {p : PV} {v : V}, Rep K sa (msk P H) p v → Top K sa (msk P H) H p v
  | .non, _, h => h
  | .bl _, _, h => h
  | .int _, _, h => h
  | .str _, _, h => h
  | .strm, _, h => h
  | .tup l, _, h => by unfold Rep at h; obtain ⟨a, vs, e, h1, h2⟩ := h; exact ⟨a, vs, e, SqT.same msk_top h1, h2⟩
  | .lst l, _, h => by unfold Rep at h; obtain ⟨a, vs, e, h1, h2⟩ := h; exact ⟨a, vs, e, msk_top _ _ h1, h2⟩
  | .dic ks l, _, h => by unfold Rep at h; obtain ⟨a, vs, e, h1, h2⟩ := h; exact ⟨a, vs, e, HD.same msk_top h1, h2⟩
theorem Obj1.top {Hm : Hp} {a : Addr} : ∀ {p : PV}, Obj1 K sa Hm H a p → Top K sa Hm H p (.ref a)
  | .lst _, ⟨vs, h, r⟩ => ⟨a, vs, rfl, h, r⟩
  | .dic _ _, .inl ⟨kvs, h, e, r⟩ => ⟨a, _, rfl, .inl ⟨kvs, .inl h, e, rfl⟩, r⟩
  | .dic _ _, .inr ⟨kvs, h, e, r⟩ => ⟨a, _, rfl, .inr ⟨kvs, .inl h, e, rfl⟩, r⟩
theorem Sta.top {r : AV} {v : V} {p : PV} (S : Sta K G ρ ts σ H) (he : (r, v) ∈ ts) (hl : look ρ r = some p) : Top K G.sa (msk (OA G ρ ts σ) H) H p v := by
  have t := S.tmp _ he
  cases r with
  | fz q => cases hl; exact Rep.top t
  | ow q =>
    cases hl
    obtain ⟨a, e, o⟩ := t
    obtain rfl : v = .ref a := e
    exact o.top
  | br i =>
    have t : σ[i]? = some (some v) := t
    obtain ⟨r, hr⟩ := S.brn _ he i rfl
    obtain ⟨u, e1, e2⟩ := S.slot i r hr
    rw [t] at e1
    cases e1
    unfold look at hl
    simp only [hr] at hl
    cases r with
    | fz q => cases hl; exact Rep.top e2
    | ow q =>
      cases hl
      obtain ⟨a, rfl, o⟩ := e2
      exact o.top
    | br j => cases hl
theorem Top.int {Hm : Hp} {i : Int} {v : V} (h : Top K sa Hm H (.int i) v) : v = .int i := by simpa only [Top, Rep] using h
theorem Top.str {Hm : Hp} {i : Str} {v : V} (h : Top K sa Hm H (.str i) v) : v = .str i := by simpa only [Top, Rep] using h
theorem Top.bl {Hm : Hp} {i : Bool} {v : V} (h : Top K sa Hm H (.bl i) v) : v = .bl i := by simpa only [Top, Rep] using h
theorem Top.non {Hm : Hp} {v : V} (h : Top K sa Hm H .non v) : v = .non := by simpa only [Top, Rep] using h
/-- an item seen through temporaries, when they are gone -/
theorem owns_pop {e : AV × V} {a : Addr} (h : Owns ρ ts σ a) : Owns ρ (e :: ts) σ a := h.imp id fun ⟨f, hf, z⟩ => ⟨f, List.mem_cons_of_mem _ hf, z⟩
theorem oa_pop {e : AV × V} {a : Addr} (h : OA G ρ ts σ a) : OA G ρ (e :: ts) σ a := h.imp owns_pop id
theorem Rep.popped {e : AV × V} {p : PV} {v : V} (h : Rep K sa (msk (OA G ρ (e :: ts) σ) H) p v) : Rep K sa (msk (OA G ρ ts σ) H) p v := Rep.same (msk_same fun _ _ n q => ⟨fun z => n (oa_pop z), q⟩) h
theorem Reps.popped {e : AV × V} {p : List PV} {v : List V} (h : Reps K sa (msk (OA G ρ (e :: ts) σ) H) p v) : Reps K sa (msk (OA G ρ ts σ) H) p v := Reps.same (msk_same fun _ _ n q => ⟨fun z => n (oa_pop z), q⟩) h
theorem Reps.grown {P : Addr → Prop} {o : HO} {a : Addr} {p : List PV} {v : List V} (n : H a = none) (h : Reps K sa (msk P H) p v) : Reps K sa (msk P (upd H a o)) p v := Reps.same (msk_same fun _ _ n' q => ⟨n', same_new n _ _ q⟩) h
/-- a new frozen tuple of what stands frozen -/
theorem Sta.newTup {a : Addr} {vs : List V} {ps : List PV} (S : Sta K G ρ ts σ H) (n : H a = none) (h : Reps K G.sa (msk (OA G ρ ts σ) H) ps vs) : Sta K G ρ ((.fz (.tup ps), .ref a) :: ts) σ (upd H a (.tup vs)) := by
  refine S.newF n ?_
  unfold Rep
  exact ⟨a, vs, rfl, .inl (.inl (by rw [msk_of (Rep.ow_same S n), upd_same])), Reps.grown n h⟩
theorem Sta.newLst {a : Addr} {vs : List V} {ps : List PV} (S : Sta K G ρ ts σ H) (n : H a = none) (h : Reps K G.sa (msk (OA G ρ ts σ) H) ps vs) : Sta K G ρ ((.ow (.lst ps), .ref a) :: ts) σ (upd H a (.lst vs)) :=
  S.newO n ⟨vs, upd_same, h⟩
/-! ### letting go -/
/-- a value as one that is stored: what is looked at is let go -/
def keepA (ρ : En) : AV → Option (AV × En)
  | .fz p => some (.fz p, ρ)
  | .ow p => some (.ow p, ρ)
  | .br i => match ρ[i]? with
    | some (some (.fz p)) => some (.fz p, ρ)
    | some (some (.ow p)) => some (.fz p, ρ.set i (some (.fz p)))
    | _ => none
/-- .. and frozen -/
def fz1 (ρ : En) : AV → Option (PV × En)
  | .fz p => some (p, ρ)
  | .ow p => some (p, ρ)
  | .br i => match ρ[i]? with
    | some (some (.fz p)) => some (p, ρ)
    | some (some (.ow p)) => some (p, ρ.set i (some (.fz p)))
    | _ => none
theorem Sta.brFz {i : Nat} {v : V} {p : PV} (S : Sta K G ρ ((.br i, v) :: ts) σ H) (h : ρ[i]? = some (some (.fz p))) : Sta K G ρ ((.fz p, v) :: ts) σ H := by
  have t : σ[i]? = some (some v) := S.tmp _ List.mem_cons_self
  obtain ⟨u, e1, e2⟩ := S.slot i _ h
  rw [t] at e1
  cases e1
  exact S.pop.push (Rep.popped e2)
theorem Sta.fz1 {r : AV} {v : V} {p : PV} (S : Sta K G ρ ((r, v) :: ts) σ H) (h : fz1 ρ r = some (p, ρ')) : Sta K G ρ' ((.fz p, v) :: ts) σ H := by
  cases r with
  | fz q => cases h; exact S
  | ow q => cases h; exact S.frz
  | br i =>
    simp only [SyP.fz1] at h
    split at h
    · rename_i q e
      cases h
      exact S.brFz e
    · rename_i q e
      cases h
      have li := (List.getElem?_eq_some_iff.mp e).1
      exact (S.frzSlot e).brFz (List.getElem?_set_self li)
    · cases h
theorem Sta.keepA {r r' : AV} {v : V} (S : Sta K G ρ ((r, v) :: ts) σ H) (h : keepA ρ r = some (r', ρ')) : Sta K G ρ' ((r', v) :: ts) σ H := by
  cases r with
  | fz q => cases h; exact S
  | ow q => cases h; exact S
  | br i =>
    simp only [SyP.keepA] at h
    split at h
    · rename_i q e
      cases h
      exact S.brFz e
    · rename_i q e
      cases h
      have li := (List.getElem?_eq_some_iff.mp e).1
      exact (S.frzSlot e).brFz (List.getElem?_set_self li)
    · cases h
/-- all of a row, from the left -/
def fzAll (ρ : En) : List AV → Option (List PV × En)
  | [] => some ([], ρ)
  | r :: rs => match fz1 ρ r with
    | some (p, ρ1) => match fzAll ρ1 rs with
      | some (ps, ρ2) => some (p :: ps, ρ2)
      | none => none
    | none => none
theorem Sta.fzAll : ∀ {rs : List AV} {vs : List V} {ts : Ts} {ρ : En} {ps : List PV}, vs.length = rs.length → Sta K G ρ (rs.zip vs ++ ts) σ H → fzAll ρ rs = some (ps, ρ') → ps.length = vs.length ∧ Sta K G ρ' ((ps.map AV.fz).zip vs ++ ts) σ H
  | [], [], _, _, _, _, S, h => by cases h; exact ⟨rfl, S⟩
  | r :: rs, v :: vs, ts, ρ, ps, hl, S, h => by
    unfold SyP.fzAll at h
    split at h
    · rename_i p ρ1 e1
      split at h
      · rename_i qs ρ2 e2
        cases h
        have S1 : Sta K G ρ1 ((.fz p, v) :: (rs.zip vs ++ ts)) σ H := Sta.fz1 S e1
        have S2 : Sta K G ρ1 (rs.zip vs ++ ((.fz p, v) :: ts)) σ H := S1.perm List.perm_middle.symm
        obtain ⟨h1, h2⟩ := Sta.fzAll (Nat.succ.inj hl) S2 e2
        exact ⟨by rw [List.length_cons, List.length_cons, h1], h2.perm List.perm_middle⟩
      · cases h
    · cases h
theorem Sta.dropN : ∀ {us ts : Ts}, Sta K G ρ (us ++ ts) σ H → Sta K G ρ ts σ H
  | [], _, S => S
  | _ :: us, _, S => Sta.dropN (us := us) S.pop
/-! ### names and constants -/
variable {X : Cx} {a b c : Expr} {pos : Pos} {wa wb wc : WE}
def QE (X : Cx) (C : CC) (e : Expr) (w : WE) : Prop := PE X e (tP C w)
def QT (X : Cx) (C : CC) (e : Expr) (w : WT) : Prop := PT X e (tPT C w)
def QA (X : Cx) (C : CC) (e : List Expr) (w : WA) : Prop := PA X e (tPA C w)
def wVar (i : Nat) : WE := fun ρ Q _ => match ρ[i]? with
  | some (some (.fz p)) => Q (.fz p) ρ
  | some (some (.ow _)) => Q (.br i) ρ
  | _ => False
theorem qe_var {i : Nat} {x : Str} (h : PE X (.Name x pos) (tVar i)) : QE X C (.Name x pos) (wVar i) := by
  refine PE.imp h fun σ H Q ⟨G, ρ, ts, Q', E', S, w, q, _⟩ => ?_
  unfold wVar at w
  split at w
  · rename_i p e
    obtain ⟨v, e1, e2⟩ := S.slot i _ e
    exact ⟨v, e1, q _ _ w _ _ (S.push e2)⟩
  · rename_i p e
    obtain ⟨v, e1, e2⟩ := S.slot i _ e
    exact ⟨v, e1, q _ _ w _ _ (S.pushBr e1 ⟨_, e⟩)⟩
  · exact w.elim
def wC (p : PV) : WE := fun ρ Q _ => Q (.fz p) ρ
theorem qe_const {e : Expr} {v : V} {p : PV} (h : PE X e (tC v)) (s : Sc p v) : QE X C e (wC p) :=
  PE.imp h fun σ H Q ⟨G, ρ, ts, Q', E', S, w, q, _⟩ => q _ _ w _ _ (S.pushSc s)
theorem qe_int {i j} : QE X C (.Constant (.int i) j pos) (wC (.int i)) := qe_const pe_int rfl
theorem qe_bl {i j} : QE X C (.Constant (.bool i) j pos) (wC (.bl i)) := qe_const pe_bl rfl
theorem qe_non {j} : QE X C (.Constant .none j pos) (wC .non) := qe_const pe_non rfl
theorem qe_str {i j} : QE X C (.Constant (.str i) j pos) (wC (.str i)) := qe_const pe_str rfl
/-- a constant of the module -/
theorem qe_glob {x : Str} {v : V} {u : Value} {p : PV} (hg : Gl X x) (hm : X.mg x = some u) (r : RelV v u) (hr : ∀ H, Rep C.K none H p v) (hd : (x == ("__debug__" : Str)) = false := by decide) (hs : ∀ sa H, Rep C.K none H p v → Rep C.K sa H p v) : QE X C (.Name x pos) (wC p) :=
  PE.imp (pe_glob hg hm r hd) fun σ H Q ⟨G, ρ, ts, Q', E', S, w, q, _⟩ => q _ _ w _ _ (S.push (hs _ _ (hr _)))
theorem qe_globSc {x : Str} {v : V} {u : Value} {p : PV} (hg : Gl X x) (hm : X.mg x = some u) (r : RelV v u) (s : Sc p v) (hd : (x == ("__debug__" : Str)) = false := by decide) : QE X C (.Name x pos) (wC p) := qe_const (pe_glob hg hm r hd) s
/-! ### two places -/
abbrev W2 := En → AV → AV → PQ → Prop
def wOp (w2 : W2) (wa wb : WE) : WE := fun ρ Q E => wa ρ (fun ra ρ1 => wb ρ1 (fun rb ρ2 => w2 ρ2 ra rb Q) E) E
def Op2 (C : CC) (w2 : W2) (r : R2) : Prop := ∀ (G : Gh) (ρ : En) (ts : Ts) (σ : L2.St) (H : Hp) (x y : V) (ra rb : AV) (Q' : PQ) (Q : VK), Sta C.K G ρ ((rb, y) :: (ra, x) :: ts) σ H → w2 ρ ra rb Q' →
  (∀ res ρ', Q' res ρ' → ∀ v H', Sta C.K G ρ' ((res, v) :: ts) σ H' → Q v H') → r x y H Q
theorem tOp_of {w2 : W2} {r : R2} (h2 : Op2 C w2 r) {σ : L2.St} {H : Hp} {Q : VK} (h : tP C (wOp w2 wa wb) σ H Q) : tOp r (tP C wa) (tP C wb) σ H Q := by
  obtain ⟨G, ρ, ts, Q', E', S, w, q, ee⟩ := h
  exact ⟨G, ρ, ts, _, E', S, w, fun ra ρ1 w1 x H1 S1 => ⟨G, ρ1, (ra, x) :: ts, _, E', S1, w1, fun rb ρ2 w3 y H2 S2 => h2 G ρ2 ts σ H2 x y ra rb Q' Q S2 w3 q, ee⟩, ee⟩
theorem qe_op {op : Operator} {w2 : W2} {r : R2} (h2 : Op2 C w2 r) (ho : OpR X (binaryOp op) r) (ha : QE X C a wa) (hb : QE X C b wb) : QE X C (.BinOp a op b pos) (wOp w2 wa wb) :=
  PE.imp (pe_op ho ha hb) fun _ _ _ h => tOp_of h2 h
theorem qe_cmp {op : CmpOp} {w2 : W2} {r : R2} (h2 : Op2 C w2 r) (ho : OpR X (compareOp op) r) (ha : QE X C a wa) (hb : QE X C b wb) (hm : behindInMarks op b = false) : QE X C (.Compare a [op] [b] pos) (wOp w2 wa wb) :=
  PE.imp (pe_cmpR ho ha hb hm) fun _ _ _ h => tOp_of h2 h
/-- a value that must be a bool, as a test -/
def wB (w : WE) : WT := fun ρ Q E => w ρ (fun r ρ' => ∃ b, look ρ' r = some (.bl b) ∧ Q b ρ') E
theorem qt_cmp {op : CmpOp} {w2 : W2} {r : R2} (h2 : Op2 C w2 r) (ho : OpR X (compareOp op) r) (ha : QE X C a wa) (hb : QE X C b wb) (hm : behindInMarks op b = false) : QT X C (.Compare a [op] [b] pos) (wB (wOp w2 wa wb)) :=
  PT.imp (pt_cmpR ho ha hb hm) fun σ H Q ⟨G, ρ, ts, Q', E', S, w, q, ee⟩ => by
    refine tOp_of h2 (Q := fun x H' => ∃ k, x = .bl k ∧ Q k H') ⟨G, ρ, ts, _, E', S, w, fun r ρ' ⟨b, e, w⟩ v H' S' => ?_, ee⟩
    exact ⟨b, (S'.top List.mem_cons_self e).bl, q _ _ w _ S'.pop⟩
theorem Op2.or {w2 w2' : W2} {r r' : R2} (h : Op2 C w2 r) (h' : Op2 C w2' r') : Op2 C (fun ρ ra rb Q => w2 ρ ra rb Q ∨ w2' ρ ra rb Q) (fun x y H Q => r x y H Q ∨ r' x y H Q) := fun G ρ ts σ H x y ra rb Q' Q S w q =>
  w.imp (fun w => h G ρ ts σ H x y ra rb Q' Q S w q) fun w => h' G ρ ts σ H x y ra rb Q' Q S w q
/-- two ints give a scalar -/
def wII (c : Int → Int → Prop) (g : Int → Int → PV) : W2 := fun ρ ra rb Q => ∃ i j, look ρ ra = some (.int i) ∧ look ρ rb = some (.int j) ∧ c i j ∧ Q (.fz (g i j)) ρ
theorem o2_I {c : Int → Int → Prop} {g : Int → Int → PV} {g' : Int → Int → V} (s : ∀ i j, Sc (g i j) (g' i j)) : Op2 C (wII c g) (rI c g') := fun G ρ ts σ H x y ra rb Q' Q S ⟨i, j, e1, e2, hc, w⟩ q =>
  ⟨i, j, (S.top (List.mem_cons_of_mem _ List.mem_cons_self) e1).int, (S.top List.mem_cons_self e2).int, hc, q _ _ w _ _ (S.pop.pop.pushSc (s i j))⟩
theorem o2_I0 {g : Int → Int → PV} {g' : Int → Int → V} (s : ∀ i j, Sc (g i j) (g' i j)) : Op2 C (wII (fun _ _ => True) g) (rI0 g') := fun G ρ ts σ H x y ra rb Q' Q S ⟨i, j, e1, e2, _, w⟩ q =>
  ⟨i, j, (S.top (List.mem_cons_of_mem _ List.mem_cons_self) e1).int, (S.top List.mem_cons_self e2).int, q _ _ w _ _ (S.pop.pop.pushSc (s i j))⟩
/-! + of ints, texts, tuples, lists -/
def wAdd : W2 := fun ρ ra rb Q => match look ρ ra, look ρ rb with
  | some (.int i), some (.int j) => Q (.fz (.int (i + j))) ρ
  | some (.str i), some (.str j) => i.length + j.length ≤ sizeLine ∧ Q (.fz (.str (i ++ j))) ρ
  | some (.tup l), some (.tup m) => l.length + m.length ≤ sizeLine ∧ Q (.fz (.tup (l ++ m))) ρ
  | some (.lst l), some (.lst m) => l.length + m.length ≤ sizeLine ∧ Q (.ow (.lst (l ++ m))) ρ
  | _, _ => False
def rAddStr : R2 := fun x y H Q => ∃ i j, x = .str i ∧ y = .str j ∧ i.length + j.length ≤ sizeLine ∧ Q (.str (i ++ j)) H
def rAdd (K : PySem.W.Frag) : R2 := fun x y H Q => rI0 (fun i j => .int (i + j)) x y H Q ∨ (rAddStr x y H Q ∨ (rCatA K x y H Q ∨ rCat x y H Q))
theorem op_addP : OpR X (binaryOp .Add) (rAdd X.K) := op_add.or (OpR.or (r := rAddStr) op_add_str (op_catA.or op_cat))
theorem o2_add : Op2 C wAdd (rAdd C.K) := fun G ρ ts σ H x y ra rb Q' Q S w q => by
  unfold wAdd at w
  split at w
  · rename_i i j e1 e2
    exact .inl ⟨i, j, (S.top (List.mem_cons_of_mem _ List.mem_cons_self) e1).int, (S.top List.mem_cons_self e2).int, q _ _ w _ _ (S.pop.pop.pushSc rfl)⟩
  · rename_i i j e1 e2
    exact .inr (.inl ⟨i, j, (S.top (List.mem_cons_of_mem _ List.mem_cons_self) e1).str, (S.top List.mem_cons_self e2).str, w.1, q _ _ w.2 _ _ (S.pop.pop.pushSc rfl)⟩)
  · rename_i l m e1 e2
    obtain ⟨a, xs, rfl, h1, r1⟩ := S.top (List.mem_cons_of_mem _ List.mem_cons_self) e1
    obtain ⟨b, ys, rfl, h2, r2⟩ := S.top List.mem_cons_self e2
    have l1 := r1.length
    have l2 := r2.length
    refine .inr (.inr (.inl ⟨a, b, xs, ys, rfl, rfl, h1, h2, by omega, fun e => ?_, fun _ e => ?_, fun _ _ p np => ?_⟩))
    · subst e
      have el : l = [] := by
        cases l
        · rfl
        · cases l1
      subst el
      refine q _ _ w.2 _ _ (S.pop.pop.push ?_)
      have t := (S.tmp _ List.mem_cons_self)
      cases rb with
      | fz p => cases e2; exact Rep.popped (Rep.popped t)
      | ow p =>
        cases e2
        obtain ⟨c, _, o⟩ := t
        exact o.elim
      | br k =>
        have t : σ[k]? = some (some (.ref b)) := t
        obtain ⟨r, hr⟩ := S.brn _ List.mem_cons_self k rfl
        obtain ⟨u, f1, f2⟩ := S.slot k r hr
        rw [t] at f1
        cases f1
        unfold look at e2
        simp only [hr] at e2
        cases r with
        | fz p => cases e2; exact Rep.popped (Rep.popped f2)
        | ow p =>
          cases e2
          obtain ⟨c, _, o⟩ := f2
          exact o.elim
        | br j => cases e2
    · subst e
      have el : m = [] := by
        cases m
        · rfl
        · cases l2
      subst el
      rw [List.append_nil] at w
      refine q _ _ w.2 _ _ (S.pop.pop.push ?_)
      have hm : (ra, V.ref a) ∈ (rb, V.ref b) :: (ra, V.ref a) :: ts := List.mem_cons_of_mem _ List.mem_cons_self
      have t := S.tmp _ hm
      cases ra with
      | fz p => cases e1; exact Rep.popped (Rep.popped t)
      | ow p =>
        cases e1
        obtain ⟨c, _, o⟩ := t
        exact o.elim
      | br k =>
        have t : σ[k]? = some (some (.ref a)) := t
        obtain ⟨r, hr⟩ := S.brn _ hm k rfl
        obtain ⟨u, f1, f2⟩ := S.slot k r hr
        rw [t] at f1
        cases f1
        unfold look at e1
        simp only [hr] at e1
        cases r with
        | fz p => cases e1; exact Rep.popped (Rep.popped f2)
        | ow p =>
          cases e1
          obtain ⟨c, _, o⟩ := f2
          exact o.elim
        | br j => cases e1
    · exact q _ _ w.2 _ _ (S.pop.pop.newTup np (Reps.append (Reps.popped (Reps.popped r1)) (Reps.popped (Reps.popped r2))))
  · rename_i l m e1 e2
    obtain ⟨a, xs, rfl, h1, r1⟩ := S.top (List.mem_cons_of_mem _ List.mem_cons_self) e1
    obtain ⟨b, ys, rfl, h2, r2⟩ := S.top List.mem_cons_self e2
    have l1 := r1.length
    have l2 := r2.length
    exact .inr (.inr (.inr ⟨a, b, xs, ys, rfl, rfl, h1, h2, by omega, fun p np => q _ _ w.2 _ _ (S.pop.pop.newLst np (Reps.append (Reps.popped (Reps.popped r1)) (Reps.popped (Reps.popped r2))))⟩))
  · exact w.elim
end SyP
set_option autoImplicit false
/-! Pure words 4: data compared, operators, tests, rows of arguments, displays. -/
namespace SyP
open PySem PySem.Spec PyProof.Rows L2 Sy
/-! ### data -/
mutual
/-- a tree as data -/
def pd : PV → PyData
  | .non => .none
  | .bl b => .bool b
  | .int i => .int i
  | .str x => .str x
  | .tup l => .tuple (pds l)
  | .lst l => .list (pds l)
  | .dic _ _ => .none
  | .strm => .none
def pds : List PV → List PyData
  | [] => []
  | p :: ps => pd p :: pds ps
end
theorem pds_map : ∀ l : List PV, pds l = l.map pd
  | [] => rfl
  | p :: ps => by unfold pds; rw [pds_map ps]; rfl
def eqp (p q : PV) : Bool := PyData.eqv (pd p) (pd q)
/-- data of at most that depth -/
def Fl : Nat → PV → Prop
  | _, .non => True
  | _, .bl _ => True
  | _, .int _ => True
  | _, .str x => PyData.strOk x = true
  | n + 1, .tup l => ∀ x ∈ l, Fl n x
  | n + 1, .lst l => ∀ x ∈ l, Fl n x
  | _, _ => False
theorem lay_all : ∀ {l : List PV}, (∀ x ∈ l, (pd x).canLay0 = true) → PyData.canLayAll0 (pds l) = true
  | [], _ => by unfold pds PyData.canLayAll0; rfl
  | p :: ps, h => by
    unfold pds PyData.canLayAll0
    rw [h p List.mem_cons_self, lay_all fun x hx => h x (List.mem_cons_of_mem _ hx)]
    rfl
theorem depth_all : ∀ {n : Nat} {l : List PV}, (∀ x ∈ l, (pd x).depth ≤ n) → PyData.depthAll (pds l) ≤ n
  | _, [], _ => by unfold pds PyData.depthAll; exact Nat.zero_le _
  | _, p :: ps, h => by
    unfold pds PyData.depthAll
    exact Nat.max_le.mpr ⟨h p List.mem_cons_self, depth_all fun x hx => h x (List.mem_cons_of_mem _ hx)⟩
theorem Fl.ok : ∀ {n : Nat} {p : PV}, Fl n p → (pd p).canLay0 = true ∧ (pd p).depth ≤ n
  | n, .non, _ => ⟨rfl, by simp [pd, PyData.depth]⟩
  | n, .bl _, _ => ⟨rfl, by simp [pd, PyData.depth]⟩
  | n, .int _, _ => ⟨rfl, by simp [pd, PyData.depth]⟩
  | n, .str x, h => ⟨by cases n <;> exact h, by simp [pd, PyData.depth]⟩
  | 0, .tup l, h => h.elim
  | n + 1, .tup l, h => by
    have h : ∀ x ∈ l, Fl n x := h
    refine ⟨?_, ?_⟩
    · unfold pd PyData.canLay0
      exact lay_all fun x hx => (Fl.ok (h x hx)).1
    · unfold pd PyData.depth
      have := depth_all (n := n) fun x hx => (Fl.ok (h x hx)).2
      omega
  | 0, .lst l, h => h.elim
  | n + 1, .lst l, h => by
    have h : ∀ x ∈ l, Fl n x := h
    refine ⟨?_, ?_⟩
    · unfold pd PyData.canLay0
      exact lay_all fun x hx => (Fl.ok (h x hx)).1
    · unfold pd PyData.depth
      have := depth_all (n := n) fun x hx => (Fl.ok (h x hx)).2
      omega
  | 0, .dic _ _, h => h.elim
  | _ + 1, .dic _ _, h => h.elim
  | 0, .strm, h => h.elim
  | _ + 1, .strm, h => h.elim
theorem Fl.shaped {n : Nat} {p : PV} (h : Fl n p) (hn : n ≤ 64) : SeqAt.shaped (pd p) = true := by
  obtain ⟨a, b⟩ := h.ok
  unfold SeqAt.shaped
  rw [a, decide_eq_true (by omega)]
  rfl
variable {K : PySem.W.Frag} {sa : SA} {H H' Hm : Hp} {G : Gh} {ρ ρ' : En} {ts ts' : Ts} {σ σ' : L2.St} {C : CC}
mutual
theorem Rep.dp : ∀ {n : Nat} {p : PV} {v : V}, Fl n p → Rep K sa H p v → Dp K H v (pd p)
  | _, .non, _, _, h => by unfold Rep at h; subst h; exact .non
  | _, .bl _, _, _, h => by unfold Rep at h; subst h; exact .bl _
  | _, .int _, _, _, h => by unfold Rep at h; subst h; exact .int _
  | _, .str _, _, _, h => by unfold Rep at h; subst h; exact .str _
  | 0, .tup _, _, f, _ => f.elim
  | n + 1, .tup l, _, f, h => by
    unfold Rep at h
    obtain ⟨a, vs, rfl, h1, h2⟩ := h
    exact .tup h1 (Reps.dp f h2)
  | 0, .lst _, _, f, _ => f.elim
  | n + 1, .lst l, _, f, h => by
    unfold Rep at h
    obtain ⟨a, vs, rfl, h1, h2⟩ := h
    exact .lst (SqL.of h1) (Reps.dp f h2)
  | 0, .dic _ _, _, f, _ => f.elim
  | _ + 1, .dic _ _, _, f, _ => f.elim
  | 0, .strm, _, f, _ => f.elim
  | _ + 1, .strm, _, f, _ => f.elim
theorem Reps.dp : ∀ {n : Nat} {l : List PV} {vs : List V}, (∀ x ∈ l, Fl n x) → Reps K sa H l vs → DpAll K H vs (pds l)
  | _, [], _, _, h => by unfold Reps at h; subst h; exact .nil
  | n, p :: ps, _, f, h => by
    unfold Reps at h
    obtain ⟨v, r, rfl, h1, h2⟩ := h
    exact .cons (Rep.dp (f p List.mem_cons_self) h1) (Reps.dp (fun x hx => f x (List.mem_cons_of_mem _ hx)) h2)
end
theorem Top.dp {P : Addr → Prop} : ∀ {n : Nat} {p : PV} {v : V}, Fl n p → Top K sa (msk P H) H p v → Dp K H v (pd p)
  | n, .non, _, f, h => by rw [h.non]; exact .non
  | n, .bl b, _, f, h => by rw [h.bl]; exact .bl _
  | n, .int b, _, f, h => by rw [h.int]; exact .int _
  | n, .str b, _, f, h => by rw [h.str]; exact .str _
  | 0, .tup _, _, f, _ => f.elim
  | n + 1, .tup l, _, f, ⟨a, vs, e, h1, h2⟩ => by subst e; exact .tup h1 (Reps.dp f (Reps.same msk_top h2))
  | 0, .lst _, _, f, _ => f.elim
  | n + 1, .lst l, _, f, ⟨a, vs, e, h1, h2⟩ => by subst e; exact .lst (SqL.of h1) (Reps.dp f (Reps.same msk_top h2))
  | 0, .dic _ _, _, f, _ => f.elim
  | _ + 1, .dic _ _, _, f, _ => f.elim
  | 0, .strm, _, f, _ => f.elim
  | _ + 1, .strm, _, f, _ => f.elim
/-! ### operators -/
abbrev mem1 {e f : AV × V} {ts : Ts} : f ∈ e :: f :: ts := List.mem_cons_of_mem _ List.mem_cons_self
/-- == and != of data -/
def wEq (neg : Bool) : W2 := fun ρ ra rb Q => ∃ p q, look ρ ra = some p ∧ look ρ rb = some q ∧ Fl 9 p ∧ Fl 9 q ∧ Q (.fz (.bl (if neg then !eqp p q else eqp p q))) ρ
theorem o2_eq : Op2 C (wEq false) (rEqD C.K) := fun G ρ ts σ H x y ra rb Q' Q S ⟨p, q, e1, e2, f1, f2, w⟩ qq =>
  ⟨pd p, pd q, Top.dp f1 (S.top mem1 e1), Top.dp f2 (S.top List.mem_cons_self e2), f1.shaped (by decide), f2.shaped (by decide), qq _ _ w _ _ (S.pop.pop.pushSc rfl)⟩
theorem o2_ne : Op2 C (wEq true) (rNeD C.K) := fun G ρ ts σ H x y ra rb Q' Q S ⟨p, q, e1, e2, f1, f2, w⟩ qq =>
  ⟨pd p, pd q, Top.dp f1 (S.top mem1 e1), Top.dp f2 (S.top List.mem_cons_self e2), f1.shaped (by decide), f2.shaped (by decide), qq _ _ w _ _ (S.pop.pop.pushSc rfl)⟩
/-- in, not in: of a row of data; of a sign in a text -/
def wIn (neg : Bool) : W2 := fun ρ ra rb Q => ∃ p, look ρ ra = some p ∧ match look ρ rb with
  | some (.tup l) => Fl 9 p ∧ Fl 9 (.tup l) ∧ Q (.fz (.bl (if neg then !l.any fun z => eqp z p else l.any fun z => eqp z p))) ρ
  | some (.lst l) => Fl 9 p ∧ Fl 9 (.lst l) ∧ Q (.fz (.bl (if neg then !l.any fun z => eqp z p else l.any fun z => eqp z p))) ρ
  | some (.str z) => ∃ c : Nat, p = .str ⟨#[c]⟩ ∧ Q (.fz (.bl (if neg then !decide (c ∈ z.cps.toList) else decide (c ∈ z.cps.toList)))) ρ
  | _ => False
def rInT (K : PySem.W.Frag) (neg : Bool) : R2 := fun x y H Q => ∃ d ds, Dp K H x d ∧ Dp K H y (.tuple ds) ∧ SeqAt.shaped d = true ∧ SeqAt.shaped (.tuple ds) = true ∧ Q (.bl (if neg then !ds.any fun z => PyData.eqv z d else ds.any fun z => PyData.eqv z d)) H
theorem op_inT {X : Cx} (hu : X.A.units + 65 < cLine) : OpR X (compareOp .In) (rInT X.K false) := by
  intro pins s σ H x y v u Q I rx ry h
  obtain ⟨d, ds, hd, he, sd, se, q⟩ := h
  obtain ⟨as, r1⟩ := Dp.reads I d x v hd rx
  obtain ⟨bs, r2⟩ := Dp.reads I (.tuple ds) y u he ry
  exact SeqAt.in_tuple_reads r2 r1 (SeqAt.canLay_of_shaped se) (SeqAt.canLay_of_shaped sd) (room_in_shaped sd hu) ⟨.bl _, H, I, rfl, q⟩
theorem op_notInT {X : Cx} (hu : X.A.units + 65 < cLine) : OpR X (compareOp .NotIn) (rInT X.K true) := by
  intro pins s σ H x y v u Q I rx ry h
  obtain ⟨d, ds, hd, he, sd, se, q⟩ := h
  obtain ⟨as, r1⟩ := Dp.reads I d x v hd rx
  obtain ⟨bs, r2⟩ := Dp.reads I (.tuple ds) y u he ry
  exact SeqAt.notIn_tuple_reads r2 r1 (SeqAt.canLay_of_shaped se) (SeqAt.canLay_of_shaped sd) (room_in_shaped sd hu) ⟨.bl _, H, I, rfl, q⟩
def rInSg (neg : Bool) : R2 := fun x y H Q => ∃ (c : Nat) (z : Str), x = .str ⟨#[c]⟩ ∧ y = .str z ∧ Q (.bl (if neg then !decide (c ∈ z.cps.toList) else decide (c ∈ z.cps.toList))) H
def rInL (K : PySem.W.Frag) (neg : Bool) : R2 := fun x y H Q => ∃ d ds, Dp K H x d ∧ Dp K H y (.list ds) ∧ SeqAt.shaped d = true ∧ SeqAt.shaped (.list ds) = true ∧ Q (.bl (if neg then !ds.any fun z => PyData.eqv z d else ds.any fun z => PyData.eqv z d)) H
def rInP (K : PySem.W.Frag) (neg : Bool) : R2 := fun x y H Q => rInT K neg x y H Q ∨ (rInL K neg x y H Q ∨ rInSg neg x y H Q)
theorem op_inP {X : Cx} (hu : X.A.units + 65 < cLine) : OpR X (compareOp .In) (rInP X.K false) := (op_inT hu).or (OpR.or (r := rInL X.K false) (op_inD hu) (r' := rInSg false) op_in_sign)
theorem op_notInP {X : Cx} (hu : X.A.units + 65 < cLine) : OpR X (compareOp .NotIn) (rInP X.K true) := (op_notInT hu).or (OpR.or (r := rInL X.K true) (op_notInD hu) (r' := rInSg true) op_notIn_sign)
theorem any_pd {l : List PV} {p : PV} : ((pds l).any fun z => PyData.eqv z (pd p)) = l.any fun z => eqp z p := by
  rw [pds_map, List.any_map]
  rfl
theorem o2_in {neg : Bool} : Op2 C (wIn neg) (rInP C.K neg) := fun G ρ ts σ H x y ra rb Q' Q S ⟨p, e1, w⟩ q => by
  have t1 := S.top mem1 e1
  split at w
  · rename_i l e2
    obtain ⟨f1, f2, w⟩ := w
    have t2 := Top.dp f2 (S.top List.mem_cons_self e2)
    refine .inl ⟨pd p, pds l, Top.dp f1 t1, by unfold pd at t2; exact t2, f1.shaped (by decide), by have := f2.shaped (by decide); unfold pd at this; exact this, ?_⟩
    rw [any_pd]
    exact q _ _ w _ _ (S.pop.pop.pushSc rfl)
  · rename_i l e2
    obtain ⟨f1, f2, w⟩ := w
    have t2 := Top.dp f2 (S.top List.mem_cons_self e2)
    refine .inr (.inl ⟨pd p, pds l, Top.dp f1 t1, by unfold pd at t2; exact t2, f1.shaped (by decide), by have := f2.shaped (by decide); unfold pd at this; exact this, ?_⟩)
    rw [any_pd]
    exact q _ _ w _ _ (S.pop.pop.pushSc rfl)
  · rename_i z e2
    obtain ⟨c, rfl, w⟩ := w
    exact .inr (.inr ⟨c, z, t1.str, (S.top List.mem_cons_self e2).str, q _ _ w _ _ (S.pop.pop.pushSc rfl)⟩)
  · exact w.elim
/-- is None -/
def wIsN (neg : Bool) : W2 := fun ρ ra rb Q => ∃ p, look ρ ra = some p ∧ look ρ rb = some .non ∧ Q (.fz (.bl (match p with | .non => !neg | _ => neg))) ρ
def rIsN : R2 := fun x y H Q => y = .non ∧ Q (.bl (decide (x = .non))) H
def rNotN : R2 := fun x y H Q => y = .non ∧ Q (.bl (!decide (x = .non))) H
theorem Top.isNon {Hm : Hp} {p : PV} {v : V} (h : Top K sa Hm H p v) : decide (v = .non) = match p with | .non => true | _ => false := by
  cases p with
  | tup l => obtain ⟨a, vs, rfl, _⟩ := h; rfl
  | lst l => obtain ⟨a, vs, rfl, _⟩ := h; rfl
  | dic k l => obtain ⟨a, vs, rfl, _⟩ := h; rfl
  | strm => simp only [Top, Rep] at h; obtain ⟨l, s, _, rfl⟩ := h; rfl
  | _ => simp only [Top, Rep] at h; subst h; rfl
theorem o2_isN : Op2 C (wIsN false) rIsN := fun G ρ ts σ H x y ra rb Q' Q S ⟨p, e1, e2, w⟩ q => by
  refine ⟨(S.top List.mem_cons_self e2).non, ?_⟩
  rw [(S.top mem1 e1).isNon]
  refine q _ _ w _ _ (S.pop.pop.pushSc ?_)
  cases p <;> rfl
theorem o2_notN : Op2 C (wIsN true) rNotN := fun G ρ ts σ H x y ra rb Q' Q S ⟨p, e1, e2, w⟩ q => by
  refine ⟨(S.top List.mem_cons_self e2).non, ?_⟩
  rw [(S.top mem1 e1).isNon]
  refine q _ _ w _ _ (S.pop.pop.pushSc ?_)
  cases p <;> rfl
/-- < and its like, of ints and of texts -/
def cmpI : CmpOp → Int → Int → Bool
  | .Lt, i, j => decide (i < j)
  | .LtE, i, j => decide (i ≤ j)
  | .Gt, i, j => decide (j < i)
  | _, i, j => decide (j ≤ i)
def cmpS : CmpOp → Str → Str → Bool
  | .Lt, i, j => decide (i.cps.toList < j.cps.toList)
  | .LtE, i, j => !decide (j.cps.toList < i.cps.toList)
  | .Gt, i, j => decide (j.cps.toList < i.cps.toList)
  | _, i, j => !decide (i.cps.toList < j.cps.toList)
def wCmp (op : CmpOp) : W2 := fun ρ ra rb Q => match look ρ ra, look ρ rb with
  | some (.int i), some (.int j) => Q (.fz (.bl (cmpI op i j))) ρ
  | some (.str i), some (.str j) => Q (.fz (.bl (cmpS op i j))) ρ
  | _, _ => False
def rCmpS (op : CmpOp) : R2 := fun x y H Q => ∃ i j, x = .str i ∧ y = .str j ∧ Q (.bl (cmpS op i j)) H
def rCmp (op : CmpOp) : R2 := fun x y H Q => rI0 (fun i j => .bl (cmpI op i j)) x y H Q ∨ rCmpS op x y H Q
theorem op_ltP {X : Cx} : OpR X (compareOp .Lt) (rCmp .Lt) := OpR.or (r := rI0 _) op_lt (r' := rCmpS .Lt) op_lt_str
theorem op_leP {X : Cx} : OpR X (compareOp .LtE) (rCmp .LtE) := OpR.or (r := rI0 _) op_le (r' := rCmpS .LtE) op_le_str
theorem op_gtP {X : Cx} : OpR X (compareOp .Gt) (rCmp .Gt) := OpR.or (r := rI0 _) op_gt (r' := rCmpS .Gt) op_gt_str
theorem op_geP {X : Cx} : OpR X (compareOp .GtE) (rCmp .GtE) := OpR.or (r := rI0 _) op_ge (r' := rCmpS .GtE) op_ge_str
theorem o2_cmp {op : CmpOp} : Op2 C (wCmp op) (rCmp op) := fun G ρ ts σ H x y ra rb Q' Q S w q => by
  unfold wCmp at w
  split at w
  · rename_i i j e1 e2
    exact .inl ⟨i, j, (S.top mem1 e1).int, (S.top List.mem_cons_self e2).int, q _ _ w _ _ (S.pop.pop.pushSc rfl)⟩
  · rename_i i j e1 e2
    exact .inr ⟨i, j, (S.top mem1 e1).str, (S.top List.mem_cons_self e2).str, q _ _ w _ _ (S.pop.pop.pushSc rfl)⟩
  · exact w.elim
/-- * of ints; a list some times -/
def wMul : W2 := fun ρ ra rb Q => match look ρ ra, look ρ rb with
  | some (.int i), some (.int j) => CMul i j ∧ Q (.fz (.int (i * j))) ρ
  | some (.lst l), some (.int k) => k < 2 ^ 62 ∧ -(2 ^ 62) < k ∧ l.length * k.toNat ≤ sizeLine ∧ Q (.ow (.lst (List.replicate k.toNat l).flatten)) ρ
  | _, _ => False
def rMul : R2 := fun x y H Q => rI CMul (fun i j => .int (i * j)) x y H Q ∨ rRep x y H Q
theorem op_mulP {X : Cx} : OpR X (binaryOp .Mult) rMul := op_mul.or op_rep
theorem Reps.rep {ps : List PV} {vs : List V} (h : Reps K sa H ps vs) : ∀ n : Nat, Reps K sa H (List.replicate n ps).flatten (List.replicate n vs).flatten
  | 0 => Reps.nil
  | n + 1 => by
    rw [List.replicate_succ, List.replicate_succ, List.flatten_cons, List.flatten_cons]
    exact Reps.append h (Reps.rep h n)
theorem o2_mul : Op2 C wMul rMul := fun G ρ ts σ H x y ra rb Q' Q S w q => by
  unfold wMul at w
  split at w
  · rename_i i j e1 e2
    exact .inl ⟨i, j, (S.top mem1 e1).int, (S.top List.mem_cons_self e2).int, w.1, q _ _ w.2 _ _ (S.pop.pop.pushSc rfl)⟩
  · rename_i l k e1 e2
    obtain ⟨a, vs, rfl, h1, h2⟩ := S.top mem1 e1
    obtain ⟨k1, k2, hz, w⟩ := w
    have hl := h2.length
    refine .inr ⟨a, k, vs, rfl, (S.top List.mem_cons_self e2).int, h1, by omega, by omega, by rw [hl]; exact hz, fun p np => ?_⟩
    exact q _ _ w _ _ (S.pop.pop.newLst np (Reps.rep (Reps.popped (Reps.popped h2)) _))
  · exact w.elim
/-- % and // by a number above 0 -/
def wMod : W2 := wII (fun _ j => 0 < j) fun i j => .int (i % j)
def wDiv : W2 := wII CDiv fun i j => .int (i / j)
def wSub : W2 := wII (fun _ _ => True) fun i j => .int (i - j)
theorem o2_mod : Op2 C wMod (rI (fun _ j => 0 < j) fun i j => .int (i % j)) := o2_I fun _ _ => rfl
theorem o2_div : Op2 C wDiv (rI CDiv fun i j => .int (i / j)) := o2_I fun _ _ => rfl
theorem o2_sub : Op2 C wSub (rI0 fun i j => .int (i - j)) := o2_I0 fun _ _ => rfl
/-! ### one place -/
variable {X : Cx} {a b c : Expr} {pos : Pos} {wa wb wc : WE}
def wNeg (wa : WE) : WE := fun ρ Q E => wa ρ (fun r ρ' => ∃ i, look ρ' r = some (.int i) ∧ Q (.fz (.int (-i))) ρ') E
theorem qe_neg (ha : QE X C a wa) : QE X C (.UnaryOp .USub a pos) (wNeg wa) :=
  PE.imp (pe_un un_neg ha) fun σ H Q ⟨G, ρ, ts, Q', E', S, w, q, ee⟩ => ⟨G, ρ, ts, _, E', S, w, fun r ρ' ⟨i, e, w⟩ v H' S' => ⟨i, (S'.top List.mem_cons_self e).int, q _ _ w _ _ (S'.pop.pushSc rfl)⟩, ee⟩
/-! ### tests -/
/-- a value's truth -/
def truth : PV → Option Bool
  | .non => some false
  | .bl b => some b
  | .int i => some (i != 0)
  | .str x => some ((x.length : Int) != 0)
  | .tup l => some !l.isEmpty
  | .lst l => some !l.isEmpty
  | _ => none
def szOk : PV → Prop
  | .str x => x.length ≤ sizeLine
  | _ => True
def wTru (w : WE) : WT := fun ρ Q E => w ρ (fun r ρ' => ∃ p b, look ρ' r = some p ∧ truth p = some b ∧ szOk p ∧ Q b ρ') E
theorem Reps.empty {l : List PV} {vs : List V} (h : Reps K sa Hm l vs) : (!vs.isEmpty) = !l.isEmpty := by
  cases l with
  | nil => unfold Reps at h; subst h; rfl
  | cons p ps => unfold Reps at h; obtain ⟨v, r, rfl, _⟩ := h; rfl
theorem qt_val (ha : QE X C a wa) (hk : X.K = C.K) (he : ∀ whole, isTrue a X.env whole = (do let v ← whole; standAt a.pos; holding [v] (truthy v))) : QT X C a (wTru wa) :=
  PT.imp (pt_truth ha he) fun σ H Q ⟨G, ρ, ts, Q', E', S, w, q, ee⟩ => ⟨G, ρ, ts, _, E', S, w, fun r ρ' ⟨p, b, e, et, ez, w⟩ v H' S' => by
    have t := S'.top List.mem_cons_self e
    refine ⟨b, ?_, q _ _ w _ S'.pop⟩
    rw [hk]
    cases p with
    | non => cases et; rw [t.non]; rfl
    | bl k => cases et; rw [t.bl]; rfl
    | int k => cases et; rw [t.int]; rfl
    | str k => cases et; rw [t.str]; exact ⟨ez, rfl⟩
    | tup l =>
      cases et
      obtain ⟨p, vs, rfl, h1, h2⟩ := t
      exact .inr (.inl ⟨vs, h1, h2.empty.symm⟩)
    | lst l =>
      cases et
      obtain ⟨p, vs, rfl, h1, h2⟩ := t
      exact .inl ⟨vs, SqL.of h1, h2.empty.symm⟩
    | dic k l => cases et
    | strm => exact (by cases et), ee⟩
def wAnd (t u : WT) : WT := fun ρ Q E => t ρ (fun b ρ' => if b = true then u ρ' Q E else Q false ρ') E
def wOr (t u : WT) : WT := fun ρ Q E => t ρ (fun b ρ' => if b = true then Q true ρ' else u ρ' Q E) E
def wNot (t : WT) : WT := fun ρ Q E => t ρ (fun b ρ' => Q (!b) ρ') E
def QW (X : Cx) (C : CC) (e : Expr) (w : WT) : Prop := PW X e (tPT C w)
theorem PW.imp {e : Expr} {t t' : TT} (h : PW X e t) (i : ∀ σ H Q, t' σ H Q → t σ H Q) : PW X e t' := ⟨fun wh pins s σ H Q I q => h.run wh pins s σ H Q I (i σ H Q q)⟩
variable {ta tb : WT} {rest : List Expr}
theorem qw_and1 (ha : QT X C a ta) : QW X C (.BoolOp .And [a] pos) ta := pw_and1 ha
theorem qw_or1 (ha : QT X C a ta) : QW X C (.BoolOp .Or [a] pos) ta := pw_or1 ha
theorem qw_and (ha : QT X C a ta) (hb : QW X C (.BoolOp .And (b :: rest) pos) tb) : QW X C (.BoolOp .And (a :: b :: rest) pos) (wAnd ta tb) :=
  PW.imp (pw_and ha hb) fun σ H Q ⟨G, ρ, ts, Q', E', S, w, q, ee⟩ => ⟨G, ρ, ts, _, E', S, w, fun k ρ' w H' S' => by
    cases k with
    | true => rw [if_pos rfl] at w ⊢; exact ⟨G, ρ', ts, Q', E', S', w, q, ee⟩
    | false => rw [if_neg (by decide)] at w ⊢; exact q _ _ w _ S', ee⟩
theorem qw_or (ha : QT X C a ta) (hb : QW X C (.BoolOp .Or (b :: rest) pos) tb) : QW X C (.BoolOp .Or (a :: b :: rest) pos) (wOr ta tb) :=
  PW.imp (pw_or ha hb) fun σ H Q ⟨G, ρ, ts, Q', E', S, w, q, ee⟩ => ⟨G, ρ, ts, _, E', S, w, fun k ρ' w H' S' => by
    cases k with
    | true => rw [if_pos rfl] at w ⊢; exact q _ _ w _ S'
    | false => rw [if_neg (by decide)] at w ⊢; exact ⟨G, ρ', ts, Q', E', S', w, q, ee⟩, ee⟩
theorem qt_w {e : Expr} {t : WT} (h : QW X C e t) : QT X C e t := h.pt
theorem qt_not (ha : QT X C a ta) : QT X C (.UnaryOp .Not a pos) (wNot ta) :=
  PT.imp (pt_not ha) fun σ H Q ⟨G, ρ, ts, Q', E', S, w, q, ee⟩ => ⟨G, ρ, ts, _, E', S, w, fun k ρ' w H' S' => q _ _ w _ S', ee⟩
/-! .. as values: all but the last must be bools -/
def wAndV (wa wb : WE) : WE := fun ρ Q E => wa ρ (fun r ρ' => ∃ b, look ρ' r = some (.bl b) ∧ if b = true then wb ρ' Q E else Q (.fz (.bl false)) ρ') E
def wOrV (wa wb : WE) : WE := fun ρ Q E => wa ρ (fun r ρ' => ∃ b, look ρ' r = some (.bl b) ∧ if b = true then Q (.fz (.bl true)) ρ' else wb ρ' Q E) E
def wNotV (wa : WE) : WE := fun ρ Q E => wa ρ (fun r ρ' => ∃ b, look ρ' r = some (.bl b) ∧ Q (.fz (.bl !b)) ρ') E
theorem qe_one {op} (h : QE X C a wa) : QE X C (.BoolOp op [a] pos) wa := pe_one h
theorem qe_and (ha : QE X C a wa) (hb : QE X C (.BoolOp .And (b :: rest) pos) wb) : QE X C (.BoolOp .And (a :: b :: rest) pos) (wAndV wa wb) :=
  PE.imp (pe_and ha hb) fun σ H Q ⟨G, ρ, ts, Q', E', S, w, q, ee⟩ => ⟨G, ρ, ts, _, E', S, w, fun r ρ' ⟨k, e, w⟩ v H' S' => by
    refine ⟨k, (S'.top List.mem_cons_self e).bl, ?_⟩
    cases k with
    | true => rw [if_pos rfl] at w ⊢; exact ⟨G, ρ', ts, Q', E', S'.pop, w, q, ee⟩
    | false => rw [if_neg (by decide)] at w ⊢; exact q _ _ w _ _ (S'.pop.pushSc rfl), ee⟩
theorem qe_or (ha : QE X C a wa) (hb : QE X C (.BoolOp .Or (b :: rest) pos) wb) : QE X C (.BoolOp .Or (a :: b :: rest) pos) (wOrV wa wb) :=
  PE.imp (pe_or ha hb) fun σ H Q ⟨G, ρ, ts, Q', E', S, w, q, ee⟩ => ⟨G, ρ, ts, _, E', S, w, fun r ρ' ⟨k, e, w⟩ v H' S' => by
    refine ⟨k, (S'.top List.mem_cons_self e).bl, ?_⟩
    cases k with
    | true => rw [if_pos rfl] at w ⊢; exact q _ _ w _ _ (S'.pop.pushSc rfl)
    | false => rw [if_neg (by decide)] at w ⊢; exact ⟨G, ρ', ts, Q', E', S'.pop, w, q, ee⟩, ee⟩
theorem qe_not (ha : QE X C a wa) : QE X C (.UnaryOp .Not a pos) (wNotV wa) :=
  PE.imp (pe_not ha) fun σ H Q ⟨G, ρ, ts, Q', E', S, w, q, ee⟩ => ⟨G, ρ, ts, _, E', S, w, fun r ρ' ⟨k, e, w⟩ v H' S' => ⟨k, (S'.top List.mem_cons_self e).bl, q _ _ w _ _ (S'.pop.pushSc rfl)⟩, ee⟩
def wIf (t : WT) (wa wb : WE) : WE := fun ρ Q E => t ρ (fun b ρ' => if b = true then wa ρ' Q E else wb ρ' Q E) E
theorem qe_if (hc : QT X C c ta) (ha : QE X C a wa) (hb : QE X C b wb) : QE X C (.IfExp c a b pos) (wIf ta wa wb) :=
  PE.imp (pe_ifExp hc ha hb) fun σ H Q ⟨G, ρ, ts, Q', E', S, w, q, ee⟩ => ⟨G, ρ, ts, _, E', S, w, fun k ρ' w H' S' => by
    cases k with
    | true => rw [if_pos rfl] at w ⊢; exact ⟨G, ρ', ts, Q', E', S', w, q, ee⟩
    | false => rw [if_neg (by decide)] at w ⊢; exact ⟨G, ρ', ts, Q', E', S', w, q, ee⟩, ee⟩
/-- a op1 b op2 c of ints, with b named once -/
def wChain (op op' : CmpOp) (wa wb wc : WE) : WE := fun ρ Q E => wa ρ (fun ra ρ1 => wb ρ1 (fun rb ρ2 => ∃ i j, look ρ2 ra = some (.int i) ∧ look ρ2 rb = some (.int j) ∧ if cmpI op i j = true then wc ρ2 (fun rc ρ3 => ∃ k, look ρ3 rc = some (.int k) ∧ Q (.fz (.bl (cmpI op' j k))) ρ3) E else Q (.fz (.bl false)) ρ2) E) E
theorem tChain_of {op op' : CmpOp} {σ : L2.St} {H : Hp} {Q : VK} (h : tP C (wChain op op' wa wb wc) σ H Q) :
    tChain (rI0 fun i j => .bl (cmpI op i j)) (rI0 fun i j => .bl (cmpI op' i j)) (tP C wa) (tP C wb) (tP C wc) σ H Q := by
  obtain ⟨G, ρ, ts, Q', E', S, w, q, ee⟩ := h
  refine ⟨G, ρ, ts, _, E', S, w, fun ra ρ1 w1 x H1 S1 => ⟨G, ρ1, (ra, x) :: ts, _, E', S1, w1, fun rb ρ2 ⟨i, j, e1, e2, w3⟩ y H2 S2 => ?_, ee⟩, ee⟩
  refine ⟨i, j, (S2.top mem1 e1).int, (S2.top List.mem_cons_self e2).int, _, rfl, ?_⟩
  by_cases h : cmpI op i j = true
  · rw [if_pos h] at w3 ⊢
    refine ⟨G, ρ2, ts, _, E', S2.pop.pop, w3, fun rc ρ3 ⟨k, e3, w4⟩ z H3 S3 => ?_, ee⟩
    exact ⟨j, k, (S2.top List.mem_cons_self e2).int, (S3.top List.mem_cons_self e3).int, q _ _ w4 _ _ (S3.pop.pushSc rfl)⟩
  · rw [if_neg h] at w3 ⊢
    exact q _ _ w3 _ _ (S2.pop.pop.pushSc rfl)
def opI0R (X : Cx) (op : CmpOp) : Prop := OpR X (compareOp op) (rI0 fun i j => .bl (cmpI op i j))
theorem oi_lt : opI0R X .Lt := op_lt
theorem oi_le : opI0R X .LtE := op_le
theorem oi_gt : opI0R X .Gt := op_gt
theorem oi_ge : opI0R X .GtE := op_ge
theorem qe_chain {op op' : CmpOp} (ho : opI0R X op) (ho' : opI0R X op') (ha : QE X C a wa) (hb : QE X C b wb) (hc : QE X C c wc) (hm : lastMarks [op, op'] [b, c] = false := by with_unfolding_all rfl) : QE X C (.Compare a [op, op'] [b, c] pos) (wChain op op' wa wb wc) :=
  PE.imp (pe_chain ho ho' ha hb hc hm) fun _ _ _ h => tChain_of h
theorem qt_chain {op op' : CmpOp} (ho : opI0R X op) (ho' : opI0R X op') (ha : QE X C a wa) (hb : QE X C b wb) (hc : QE X C c wc) (hm : lastMarks [op, op'] [b, c] = false := by with_unfolding_all rfl) : QT X C (.Compare a [op, op'] [b, c] pos) (wB (wChain op op' wa wb wc)) :=
  PT.imp (pt_chain ho ho' ha hb hc hm) fun σ H Q ⟨G, ρ, ts, Q', E', S, w, q, ee⟩ =>
    tChain_of (Q := fun x H' => ∃ k, x = .bl k ∧ Q k H') ⟨G, ρ, ts, _, E', S, w, fun r ρ' ⟨b, e, w⟩ v H' S' => ⟨b, (S'.top List.mem_cons_self e).bl, q _ _ w _ S'.pop⟩, ee⟩
/-! ### rows of arguments, displays -/
variable {e : Expr} {es : List Expr} {w : WE} {wr : WA}
def wNil : WA := fun ρ Q _ => Q [] ρ
def wCons (w : WE) (wr : WA) : WA := fun ρ Q E => w ρ (fun r ρ1 => wr ρ1 (fun rs ρ2 => Q (r :: rs) ρ2) E) E
theorem qa_nil : QA X C [] wNil := PA.imp pa_nil fun σ H Q ⟨G, ρ, ts, Q', E', S, w, q, ee⟩ => q _ _ w _ _ rfl S
theorem qa_cons (ha : QE X C e w) (hr : QA X C es wr) (hs : starEach (e :: es) X.env = (false, eval e X.env) :: starEach es X.env := by rfl) : QA X C (e :: es) (wCons w wr) :=
  PA.imp (pa_cons ha hr hs) fun σ H Q ⟨G, ρ, ts, Q', E', S, w, q, ee⟩ => ⟨G, ρ, ts, _, E', S, w, fun r ρ1 w1 x H1 S1 => ⟨G, ρ1, (r, x) :: ts, _, E', S1, w1, fun rs ρ2 w2 xs H2 hl S2 =>
    q _ _ w2 _ _ (by rw [List.length_cons, List.length_cons, hl]) (S2.perm (List.perm_middle)), ee⟩, ee⟩
def wTup (wr : WA) : WE := fun ρ Q E => wr ρ (fun rs ρ' => match fzAll ρ' rs with
  | some (ps, ρ2) => ps.length ≤ sizeLine ∧ Q (.fz (.tup ps)) ρ2
  | none => False) E
def wLst (wr : WA) : WE := fun ρ Q E => wr ρ (fun rs ρ' => match fzAll ρ' rs with
  | some (ps, ρ2) => ps.length ≤ sizeLine ∧ Q (.ow (.lst ps)) ρ2
  | none => False) E
theorem fz_split {rs : List AV} {R : List PV → En → Prop} (w : match fzAll ρ rs with | some (ps, ρ2) => R ps ρ2 | none => False) : ∃ ps ρ2, fzAll ρ rs = some (ps, ρ2) ∧ R ps ρ2 := by
  split at w
  · rename_i ps ρ2 e
    exact ⟨ps, ρ2, e, w⟩
  · exact w.elim
theorem qe_tup {x1} (h : QA X C es wr) : QE X C (.Tuple es x1 pos) (wTup wr) :=
  PE.imp (pe_tup h) fun σ H Q ⟨G, ρ, ts, Q', E', S, w, q, ee⟩ => ⟨G, ρ, ts, _, E', S, w, fun rs ρ' w vs H' hl S' => by
    obtain ⟨ps, ρ2, ef, hz, w⟩ := fz_split w
    obtain ⟨h1, S2⟩ := S'.fzAll hl ef
    exact ⟨by omega, fun p np => q _ _ w _ _ (S2.dropN.newTup np (S2.argsRep (by omega)))⟩, ee⟩
theorem qe_lst (h : QA X C es wr) : QE X C (.List es pos) (wLst wr) :=
  PE.imp (pe_lst h) fun σ H Q ⟨G, ρ, ts, Q', E', S, w, q, ee⟩ => ⟨G, ρ, ts, _, E', S, w, fun rs ρ' w vs H' hl S' => by
    obtain ⟨ps, ρ2, ef, hz, w⟩ := fz_split w
    obtain ⟨h1, S2⟩ := S'.fzAll hl ef
    exact ⟨by omega, fun p np => q _ _ w _ _ (S2.dropN.newLst np (S2.argsRep (by omega)))⟩, ee⟩
end SyP
set_option autoImplicit false
/-! Pure words 5: parts of rows and texts, calls, methods. -/
namespace SyP
open PySem PySem.Spec PyProof.Rows L2 Sy
variable {K : PySem.W.Frag} {sa : SA} {H H' Hm : Hp} {G : Gh} {ρ ρ' : En} {ts ts' : Ts} {σ σ' : L2.St} {C : CC} {X : Cx} {a b c : Expr} {pos p2 : Pos} {wa wb wc w : WE} {e : Expr} {es : List Expr} {wr : WA}
/-! ### items -/
theorem Reps.atI {l : List PV} {vs : List V} {i : Int} {p : PV} (h : Reps K sa H l vs) (e : atI l i = some p) : ∃ v, atI vs i = some v ∧ Rep K sa H p v := by
  unfold L2.atI at e ⊢
  rw [h.length]
  cases q : ixN l.length i with
  | none => rw [q] at e; cases e
  | some j =>
    rw [q] at e
    exact h.get e
/-- a value of a dict by its key -/
def dget : List PV → List PV → PV → Option PV
  | k :: ks, v :: vs, x => if eqp k x then some v else dget ks vs x
  | _, _, _ => none
def wIx : W2 := fun ρ ra rb Q => match look ρ ra, look ρ rb with
  | some (.tup l), some (.int i) => ∃ p, atI l i = some p ∧ Q (.fz p) ρ
  | some (.lst l), some (.int i) => ∃ p, atI l i = some p ∧ Q (.fz p) ρ
  | some (.str z), some (.int i) => z.length ≤ sizeLine ∧ ∃ c, atI z.cps.toList i = some c ∧ Q (.fz (.str ⟨#[c]⟩)) ρ
  | _, _ => False
theorem o2_ix : Op2 C wIx (rIx C.K) := fun G ρ ts σ H x y ra rb Q' Q S w q => by
  unfold wIx at w
  split at w
  · rename_i l i e1 e2
    obtain ⟨p, e, w⟩ := w
    obtain ⟨a, vs, rfl, h1, h2⟩ := S.top mem1 e1
    obtain ⟨v, e3, e4⟩ := h2.atI e
    exact .inr (.inl ⟨a, vs, i, v, rfl, (S.top List.mem_cons_self e2).int, h1, e3, q _ _ w _ _ (S.pop.pop.push (Rep.popped (Rep.popped e4)))⟩)
  · rename_i l i e1 e2
    obtain ⟨p, e, w⟩ := w
    obtain ⟨a, vs, rfl, h1, h2⟩ := S.top mem1 e1
    obtain ⟨v, e3, e4⟩ := h2.atI e
    exact .inl ⟨a, vs, i, v, rfl, (S.top List.mem_cons_self e2).int, SqL.of h1, e3, q _ _ w _ _ (S.pop.pop.push (Rep.popped (Rep.popped e4)))⟩
  · rename_i z i e1 e2
    obtain ⟨hz, c, e, w⟩ := w
    exact .inr (.inr ⟨z, i, c, (S.top mem1 e1).str, (S.top List.mem_cons_self e2).int, hz, e, q _ _ w _ _ (S.pop.pop.pushSc rfl)⟩)
  · exact w.elim
theorem qe_ix (hk : X.K = C.K) (ha : QE X C a wa) (hb : QE X C b wb) (hs : PlainIx b) : QE X C (.Subscript a b pos) (wOp wIx wa wb) :=
  PE.imp (pe_ix (r := rIx C.K) (hk ▸ ix_seq) ha hb hs) fun _ _ _ h => tOp_of o2_ix h
/-! ### parts -/
def cutL {α : Type} (xs : List α) (lo hi : Option Int) : List α := (xs.drop (HT.sIx xs.length 0 lo)).take (HT.sIx xs.length xs.length hi - HT.sIx xs.length 0 lo)
abbrev WO := En → (Option AV → En → Prop) → (PX → Prop) → Prop
def wNo : WO := fun ρ Q _ => Q none ρ
def wYes (w : WE) : WO := fun ρ Q E => w ρ (fun r ρ' => Q (some r) ρ') E
/-- the part's place as an int -/
def part (ρ : En) : Option AV → Option (Option Int)
  | none => some none
  | some r => match look ρ r with
    | some (.int i) => some (some i)
    | _ => none
/-- what the temporaries of a part are -/
def otT : Option AV → Option Int → Ts
  | some r, some i => [(r, .int i)]
  | _, _ => []
def tPO (C : CC) (w : WO) : TO := fun σ H Q => ∃ G ρ ts Q' E', Sta C.K G ρ ts σ H ∧ w ρ Q' E' ∧ (∀ r ρ', Q' r ρ' → ∃ o, part ρ' r = some o ∧ ∀ H', Sta C.K G ρ' ts σ H' → Q o H') ∧ EEx C G E'
def QO (X : Cx) (C : CC) (e : Option Expr) (w : WO) : Prop := PO X e (tPO C w)
theorem PO.imp {e : Option Expr} {t t' : TO} (h : PO X e t) (i : ∀ σ H Q, t' σ H Q → t σ H Q) : PO X e t' := ⟨fun pins s σ H Q I q => h.run pins s σ H Q I (i σ H Q q)⟩
theorem qo_none : QO X C none wNo := PO.imp po_none fun σ H Q ⟨G, ρ, ts, Q', E', S, w, q, ee⟩ => by
  obtain ⟨o, e, k⟩ := q _ _ w
  cases e
  exact k _ S
theorem qo_some (h : QE X C e w) : QO X C (some e) (wYes w) := PO.imp (po_some h) fun σ H Q ⟨G, ρ, ts, Q', E', S, w, q, ee⟩ =>
  ⟨G, ρ, ts, _, E', S, w, fun r ρ' w v H' S' => by
    obtain ⟨o, e, k⟩ := q _ _ w
    unfold part at e
    split at e
    · rename_i er
      cases er
    · rename_i r' er
      cases er
      split at e
      · rename_i i ei
        cases e
        exact ⟨i, (S'.top List.mem_cons_self ei).int, k _ S'.pop⟩
      · exact (nomatch e), ee⟩
theorem cutL_map {α β : Type} (f : α → β) (xs : List α) (lo hi : Option Int) : cutL (xs.map f) lo hi = (cutL xs lo hi).map f := by
  unfold cutL
  rw [List.length_map, List.map_take, List.map_drop]
theorem Reps.cut {l : List PV} {vs : List V} (h : Reps K sa H l vs) (lo hi : Option Int) : Reps K sa H (cutL l lo hi) (cutV vs lo hi) := by
  unfold cutL cutV
  rw [h.length]
  exact (h.drop _).take _
/-- a[lo:hi] -/
def wSl (wa : WE) (wl wh : WO) : WE := fun ρ Q E => wa ρ (fun ra ρ1 => wl ρ1 (fun rl ρ2 => ∃ lo, part ρ2 rl = some lo ∧ wh ρ2 (fun rh ρ3 => ∃ hi, part ρ3 rh = some hi ∧ match look ρ3 ra with
  | some (.tup l) => Q (.fz (.tup (cutL l lo hi))) ρ3
  | some (.lst l) => Q (.ow (.lst (cutL l lo hi))) ρ3
  | some (.str z) => z.length ≤ sizeLine ∧ Q (.fz (.str (cutS z lo hi))) ρ3
  | _ => False) E) E) E
def rSlP (K : PySem.W.Frag) : V → Option Int → Option Int → Hp → VK → Prop := fun x lo hi H Q => rSlA K x lo hi H Q ∨ (rSlL K x lo hi H Q ∨ rSlS x lo hi H Q)
theorem sl_P : SlR X (rSlP X.K) := sl_tupA.or (sl_list.or sl_str)
/-- a tuple seen is frozen -/
theorem Sta.repTup {r : AV} {v : V} {l : List PV} (S : Sta K G ρ ts σ H) (he : (r, v) ∈ ts) (hl : look ρ r = some (.tup l)) : Rep K G.sa (msk (OA G ρ ts σ) H) (.tup l) v := by
  have t := S.tmp _ he
  cases r with
  | fz q => cases hl; exact t
  | ow q =>
    cases hl
    obtain ⟨a, e, o⟩ := t
    exact o.elim
  | br i =>
    have t : σ[i]? = some (some v) := t
    obtain ⟨r, hr⟩ := S.brn _ he i rfl
    obtain ⟨u, e1, e2⟩ := S.slot i r hr
    rw [t] at e1
    cases e1
    unfold look at hl
    simp only [hr] at hl
    cases r with
    | fz q => cases hl; exact e2
    | ow q =>
      cases hl
      obtain ⟨a, rfl, o⟩ := e2
      exact o.elim
    | br j => cases hl
theorem cut_whole {α : Type} {xs : List α} {lo hi : Option Int} (e : HT.sIx xs.length 0 lo = 0 ∧ HT.sIx xs.length xs.length hi = xs.length) : cutL xs lo hi = xs := by
  unfold cutL
  rw [e.1, e.2, List.drop_zero, Nat.sub_zero, List.take_length]
theorem qe_slice {lo hi : Option Expr} {wl wh : WO} (hk : X.K = C.K) (ha : QE X C a wa) (hl : QO X C lo wl) (hh : QO X C hi wh) : QE X C (.Subscript a (.Slice lo hi none p2) pos) (wSl wa wl wh) :=
  PE.imp (pe_slice (r := rSlP C.K) (hk ▸ sl_P) ha hl hh) fun σ H Q ⟨G, ρ, ts, Q', E', S, w, q, ee⟩ => ⟨G, ρ, ts, _, E', S, w, fun ra ρ1 w x H1 S1 =>
    ⟨G, ρ1, (ra, x) :: ts, _, E', S1, w, fun rl ρ2 ⟨lo, el, w⟩ => ⟨lo, el, fun H2 S2 => ⟨G, ρ2, (ra, x) :: ts, _, E', S2, w, fun rh ρ3 ⟨hi, eh, w⟩ => ⟨hi, eh, fun H3 S3 => by
      split at w
      · rename_i l e1
        have tr := S3.repTup List.mem_cons_self e1
        obtain ⟨a, vs, rfl, h1, h2⟩ := S3.top List.mem_cons_self e1
        refine .inl ⟨a, vs, rfl, h1, fun e => ?_, fun _ p np => q _ _ w _ _ (S3.pop.newTup np ((Reps.popped h2).cut lo hi))⟩
        have e' : cutL l lo hi = l := cut_whole (by rw [← h2.length]; exact e)
        rw [e'] at w
        exact q _ _ w _ _ (S3.pop.push (Rep.popped tr))
      · rename_i l e1
        obtain ⟨a, vs, rfl, h1, h2⟩ := S3.top List.mem_cons_self e1
        exact .inr (.inl ⟨a, vs, rfl, SqL.of h1, fun p np => q _ _ w _ _ (S3.pop.newLst np ((Reps.popped h2).cut lo hi))⟩)
      · rename_i z e1
        exact .inr (.inr ⟨z, (S3.top List.mem_cons_self e1).str, w.1, q _ _ w.2 _ _ (S3.pop.pushSc rfl)⟩)
      · exact w.elim⟩, ee⟩⟩, ee⟩, ee⟩
/-! ### calls of built-in things, by values -/
abbrev WB := En → List AV → PQ → Prop
def CaP (C : CC) (wb : WB) (r : List V → Hp → VK → Prop) : Prop := ∀ (G : Gh) (ρ : En) (ts : Ts) (σ : L2.St) (H : Hp) (rs : List AV) (vs : List V) (Q' : PQ) (Q : VK), vs.length = rs.length → Sta C.K G ρ (rs.zip vs ++ ts) σ H → wb ρ rs Q' →
  (∀ res ρ', Q' res ρ' → ∀ v H', Sta C.K G ρ' ((res, v) :: ts) σ H' → Q v H') → r vs H Q
def wCB (wb : WB) (wr : WA) : WE := fun ρ Q E => wr ρ (fun rs ρ' => wb ρ' rs Q) E
theorem tCB_of {wb : WB} {r : List V → Hp → VK → Prop} (hc : CaP C wb r) {σ : L2.St} {H : Hp} {Q : VK} (h : tP C (wCB wb wr) σ H Q) : tCB r (tPA C wr) σ H Q := by
  obtain ⟨G, ρ, ts, Q', E', S, w, q, ee⟩ := h
  exact ⟨G, ρ, ts, _, E', S, w, fun rs ρ' w vs H' hl S' => hc G ρ' ts σ H' rs vs Q' Q hl S' w q, ee⟩
theorem qe_callB {wb : WB} {r : List V → Hp → VK → Prop} {id : String} {x : Str} {p : Pos} (hp : CaP C wb r) (hc : CallR X (.builtin id) r) (hg : Gl X x) (hm : X.mg x = none) (hv : bootBuiltins x = some (.builtin id)) (ha : QA X C (e :: es) wr) (hn : x ≠ "__name__" := by decide) (hdb : (x == ("__debug__" : Str)) = false := by decide)
    (he : starEach (e :: es) X.env = (false, eval e X.env) :: starEach es X.env := by rfl) (hpl : (backTo pos (starEach es X.env)).any (·.1) = false := by rfl) : QE X C (.Call (.Name x p) (e :: es) [] pos) (wCB wb wr) :=
  PE.imp (pe_callB hc hg hm hv ha hn hdb he hpl) fun _ _ _ h => tCB_of hp h
theorem qe_callTy {wb : WB} {r : List V → Hp → VK → Prop} {T : String} {x : Str} {p : Pos} (hp : CaP C wb r) (hc : CallR X (.type T) r) (hg : Gl X x) (hm : X.mg x = none) (hv : bootBuiltins x = some (.type T)) (ha : QA X C (e :: es) wr) (hn : x ≠ "__name__" := by decide) (hdb : (x == ("__debug__" : Str)) = false := by decide)
    (he : starEach (e :: es) X.env = (false, eval e X.env) :: starEach es X.env := by rfl) (hpl : (backTo pos (starEach es X.env)).any (·.1) = false := by rfl) : QE X C (.Call (.Name x p) (e :: es) [] pos) (wCB wb wr) :=
  PE.imp (pe_callTy hc hg hm hv ha hn hdb he hpl) fun _ _ _ h => tCB_of hp h
theorem CaP.one {wb : WB} {r : List V → Hp → VK → Prop} (h1 : ∀ ρ rs Q, wb ρ rs Q → ∃ a, rs = [a])
    (h : ∀ (G : Gh) (ρ : En) (ts : Ts) (σ : L2.St) (H : Hp) (ra : AV) (v : V) (Q' : PQ) (Q : VK), Sta C.K G ρ ((ra, v) :: ts) σ H → wb ρ [ra] Q' → (∀ res ρ', Q' res ρ' → ∀ v H', Sta C.K G ρ' ((res, v) :: ts) σ H' → Q v H') → r [v] H Q) : CaP C wb r :=
  fun G ρ ts σ H rs vs Q' Q hl S w q => by
    obtain ⟨ra, rfl⟩ := h1 _ _ _ w
    match vs, hl with
    | [v], _ => exact h G ρ ts σ H ra v Q' Q S w q
/-- len -/
def lenP : PV → Option Nat
  | .str z => some z.length
  | .tup l => some l.length
  | .lst l => some l.length
  | _ => none
def wLen : WB := fun ρ rs Q => ∃ ra p n, rs = [ra] ∧ look ρ ra = some p ∧ lenP p = some n ∧ szOk p ∧ Q (.fz (.int (n : Nat))) ρ
def rLenP (K : PySem.W.Frag) : List V → Hp → VK → Prop := fun xs H Q => (∃ p ys, xs = [.ref p] ∧ (SqL K H p ys ∨ SqT K H p ys) ∧ Q (.int ys.length) H) ∨ ∃ z, xs = [.str z] ∧ z.length ≤ sizeLine ∧ Q (.int z.length) H
theorem ca_lenR : CallR X (.builtin "len") (rLenP X.K) := CallR.or (r := fun xs H Q => ∃ p ys, xs = [.ref p] ∧ (SqL X.K H p ys ∨ SqT X.K H p ys) ∧ Q (.int ys.length) H) call_len_seq call_len_str
theorem cp_len : CaP C wLen (rLenP C.K) := CaP.one (fun _ _ _ ⟨a, _, _, e, _⟩ => ⟨a, e⟩) fun G ρ ts σ H ra v Q' Q S ⟨_, p, n, e0, e, el, ez, w⟩ q => by
  cases e0
  have t := S.top List.mem_cons_self e
  cases p with
  | str z => cases el; exact .inr ⟨z, by rw [t.str], ez, q _ _ w _ _ (S.pop.pushSc rfl)⟩
  | tup l => cases el; obtain ⟨a, vs, rfl, h1, h2⟩ := t; exact .inl ⟨a, vs, rfl, .inr h1, by rw [h2.length]; exact q _ _ w _ _ (S.pop.pushSc rfl)⟩
  | lst l => cases el; obtain ⟨a, vs, rfl, h1, h2⟩ := t; exact .inl ⟨a, vs, rfl, .inl (SqL.of h1), by rw [h2.length]; exact q _ _ w _ _ (S.pop.pushSc rfl)⟩
  | _ => cases el
/-- list(row), tuple(row) -/
def itemsP : PV → Option (List PV)
  | .tup l => some l
  | .lst l => some l
  | _ => none
def wListOf : WB := fun ρ rs Q => ∃ ra p l, rs = [ra] ∧ look ρ ra = some p ∧ itemsP p = some l ∧ Q (.ow (.lst l)) ρ
def rListOf (K : PySem.W.Frag) : List V → Hp → VK → Prop := fun xs H Q => ∃ p ys, xs = [.ref p] ∧ (SqL K H p ys ∨ SqT K H p ys) ∧ ∀ l, H l = none → Q (.ref l) (upd H l (.lst ys))
theorem cp_list : CaP C wListOf (rListOf C.K) := CaP.one (fun _ _ _ ⟨a, _, _, e, _⟩ => ⟨a, e⟩) fun G ρ ts σ H ra v Q' Q S ⟨_, p, n, e0, e, el, w⟩ q => by
  cases e0
  have t := S.top List.mem_cons_self e
  cases p with
  | tup l => cases el; obtain ⟨a, vs, rfl, h1, h2⟩ := t; exact ⟨a, vs, rfl, .inr h1, fun l nl => q _ _ w _ _ (S.pop.newLst nl (Reps.popped h2))⟩
  | lst l => cases el; obtain ⟨a, vs, rfl, h1, h2⟩ := t; exact ⟨a, vs, rfl, .inl (SqL.of h1), fun l nl => q _ _ w _ _ (S.pop.newLst nl (Reps.popped h2))⟩
  | _ => cases el
def wTupOf : WB := fun ρ rs Q => ∃ ra p l, rs = [ra] ∧ look ρ ra = some p ∧ itemsP p = some l ∧ Q (.fz (.tup l)) ρ
def rTupOf (K : PySem.W.Frag) : List V → Hp → VK → Prop := fun xs H Q => ∃ p ys, xs = [.ref p] ∧ ((SqL K H p ys ∧ ∀ l, H l = none → Q (.ref l) (upd H l (.tup ys))) ∨ (SqT K H p ys ∧ Q (.ref p) H))
theorem cp_tuple : CaP C wTupOf (rTupOf C.K) := CaP.one (fun _ _ _ ⟨a, _, _, e, _⟩ => ⟨a, e⟩) fun G ρ ts σ H ra v Q' Q S ⟨_, p, n, e0, e, el, w⟩ q => by
  cases e0
  have t := S.top List.mem_cons_self e
  cases p with
  | tup l =>
    cases el
    have tr := S.repTup List.mem_cons_self e
    obtain ⟨a, vs, rfl, h1, h2⟩ := t
    exact ⟨a, vs, rfl, .inr ⟨h1, q _ _ w _ _ (S.pop.push (Rep.popped tr))⟩⟩
  | lst l => cases el; obtain ⟨a, vs, rfl, h1, h2⟩ := t; exact ⟨a, vs, rfl, .inl ⟨SqL.of h1, fun l nl => q _ _ w _ _ (S.pop.newTup nl (Reps.popped h2))⟩⟩
  | _ => cases el
/-- all, any, sum, min, max of a list of scalars -/
theorem Reps.bls : ∀ {bs : List Bool} {vs : List V}, Reps K sa Hm (bs.map PV.bl) vs → vs = bs.map V.bl
  | [], _, h => by unfold List.map Reps at h; exact h
  | b :: bs, _, h => by
    rw [List.map_cons] at h
    unfold Reps at h
    obtain ⟨v, r, rfl, h1, h2⟩ := h
    unfold Rep at h1
    rw [h1, Reps.bls h2]
    rfl
theorem Reps.ints : ∀ {bs : List Int} {vs : List V}, Reps K sa Hm (bs.map PV.int) vs → vs = bs.map V.int
  | [], _, h => by unfold List.map Reps at h; exact h
  | b :: bs, _, h => by
    rw [List.map_cons] at h
    unfold Reps at h
    obtain ⟨v, r, rfl, h1, h2⟩ := h
    unfold Rep at h1
    rw [h1, Reps.ints h2]
    rfl
theorem Reps.strs : ∀ {bs : List Str} {vs : List V}, Reps K sa Hm (bs.map PV.str) vs → vs = bs.map V.str
  | [], _, h => by unfold List.map Reps at h; exact h
  | b :: bs, _, h => by
    rw [List.map_cons] at h
    unfold Reps at h
    obtain ⟨v, r, rfl, h1, h2⟩ := h
    unfold Rep at h1
    rw [h1, Reps.strs h2]
    rfl
theorem Reps.of_ints : ∀ {bs : List Int}, Reps K sa Hm (bs.map PV.int) (bs.map V.int)
  | [] => Reps.nil
  | b :: bs => Reps.cons (by unfold Rep; rfl) Reps.of_ints
theorem Reps.of_strs : ∀ {bs : List Str}, Reps K sa Hm (bs.map PV.str) (bs.map V.str)
  | [] => Reps.nil
  | b :: bs => Reps.cons (by unfold Rep; rfl) Reps.of_strs
def wBools (g : List Bool → Bool) : WB := fun ρ rs Q => ∃ (ra : AV) (bs : List Bool), rs = [ra] ∧ look ρ ra = some (.lst (bs.map PV.bl)) ∧ Q (.fz (.bl (g bs))) ρ
theorem cp_all : CaP C (wBools fun bs => bs.all id) (rAll C.K) := CaP.one (fun _ _ _ ⟨a, _, e, _⟩ => ⟨a, e⟩) fun G ρ ts σ H ra v Q' Q S ⟨_, bs, e0, e, w⟩ q => by
  cases e0
  obtain ⟨a, vs, rfl, h1, h2⟩ := S.top List.mem_cons_self e
  rw [h2.bls] at h1
  exact ⟨a, bs, rfl, SqL.of h1, q _ _ w _ _ (S.pop.pushSc rfl)⟩
theorem cp_any : CaP C (wBools fun bs => bs.any id) (rAny C.K) := CaP.one (fun _ _ _ ⟨a, _, e, _⟩ => ⟨a, e⟩) fun G ρ ts σ H ra v Q' Q S ⟨_, bs, e0, e, w⟩ q => by
  cases e0
  obtain ⟨a, vs, rfl, h1, h2⟩ := S.top List.mem_cons_self e
  rw [h2.bls] at h1
  exact ⟨a, bs, rfl, SqL.of h1, q _ _ w _ _ (S.pop.pushSc rfl)⟩
def wSum : WB := fun ρ rs Q => ∃ (ra : AV) (ns : List Int), rs = [ra] ∧ look ρ ra = some (.lst (ns.map PV.int)) ∧ Q (.fz (.int ns.sum)) ρ
theorem cp_sum : CaP C wSum (rSum C.K) := CaP.one (fun _ _ _ ⟨a, _, e, _⟩ => ⟨a, e⟩) fun G ρ ts σ H ra v Q' Q S ⟨_, bs, e0, e, w⟩ q => by
  cases e0
  obtain ⟨a, vs, rfl, h1, h2⟩ := S.top List.mem_cons_self e
  rw [h2.ints] at h1
  exact ⟨a, bs, rfl, SqL.of h1, q _ _ w _ _ (S.pop.pushSc rfl)⟩
def wMax : WB := fun ρ rs Q => ∃ (ra : AV) (ns : List Int), rs = [ra] ∧ look ρ ra = some (.lst (ns.map PV.int)) ∧ 0 < ns.length ∧ ∀ m, m ∈ ns → (∀ y, y ∈ ns → y ≤ m) → Q (.fz (.int m)) ρ
theorem cp_max : CaP C wMax (rMax C.K) := CaP.one (fun _ _ _ ⟨a, _, e, _⟩ => ⟨a, e⟩) fun G ρ ts σ H ra v Q' Q S ⟨_, bs, e0, e, hz, w⟩ q => by
  cases e0
  obtain ⟨a, vs, rfl, h1, h2⟩ := S.top List.mem_cons_self e
  rw [h2.ints] at h1
  exact ⟨a, bs, rfl, SqL.of h1, hz, fun m h1 h2 => q _ _ (w m h1 h2) _ _ (S.pop.pushSc rfl)⟩
def wMin : WB := fun ρ rs Q => ∃ (ra : AV) (ns : List Int), rs = [ra] ∧ look ρ ra = some (.lst (ns.map PV.int)) ∧ 0 < ns.length ∧ ∀ m, m ∈ ns → (∀ y, y ∈ ns → m ≤ y) → Q (.fz (.int m)) ρ
theorem cp_min : CaP C wMin (rMin C.K) := CaP.one (fun _ _ _ ⟨a, _, e, _⟩ => ⟨a, e⟩) fun G ρ ts σ H ra v Q' Q S ⟨_, bs, e0, e, hz, w⟩ q => by
  cases e0
  obtain ⟨a, vs, rfl, h1, h2⟩ := S.top List.mem_cons_self e
  rw [h2.ints] at h1
  exact ⟨a, bs, rfl, SqL.of h1, hz, fun m h1 h2 => q _ _ (w m h1 h2) _ _ (S.pop.pushSc rfl)⟩
def wM2 (g : Int → Int → Int) : WB := fun ρ rs Q => ∃ ra rb i j, rs = [ra, rb] ∧ look ρ ra = some (.int i) ∧ look ρ rb = some (.int j) ∧ Q (.fz (.int (g i j))) ρ
def rM2 (g : Int → Int → Int) : List V → Hp → VK → Prop := fun xs H Q => ∃ i j, xs = [.int i, .int j] ∧ Q (.int (g i j)) H
theorem cp_m2 {g : Int → Int → Int} : CaP C (wM2 g) (rM2 g) := fun G ρ ts σ H rs vs Q' Q hl S ⟨ra, rb, i, j, e, e1, e2, w⟩ q => by
  subst e
  match vs, hl with
  | [x, y], _ =>
    exact ⟨i, j, by rw [(S.top (r := ra) List.mem_cons_self e1).int, (S.top (r := rb) (v := y) mem1 e2).int], q _ _ w _ _ (S.pop.pop.pushSc rfl)⟩
/-- int, abs of an int -/
def intOf : PV → Option Int
  | .int i => some i
  | .bl k => some (if k then 1 else 0)
  | _ => none
def wInt : WB := fun ρ rs Q => ∃ (ra : AV) (p : PV) (i : Int), rs = [ra] ∧ look ρ ra = some p ∧ intOf p = some i ∧ Q (.fz (.int i)) ρ
theorem cp_int : CaP C wInt (fun xs H Q => (∃ i, xs = [.int i] ∧ Q (.int i) H) ∨ ∃ k, xs = [.bl k] ∧ Q (.int (if k then 1 else 0)) H) := CaP.one (fun _ _ _ ⟨a, _, _, e, _⟩ => ⟨a, e⟩) fun G ρ ts σ H ra v Q' Q S ⟨_, p, i, e0, e, ei, w⟩ q => by
  cases e0
  have t := S.top List.mem_cons_self e
  have fin := q _ _ w (.int i) _ (S.pop.pushSc rfl)
  cases p with
  | int j => cases ei; exact .inl ⟨i, by rw [t.int], fin⟩
  | bl k => cases ei; exact .inr ⟨k, by rw [t.bl], fin⟩
  | _ => cases ei
/-- isinstance(x, T) -/
def isTy (T : String) : PV → Bool
  | .non => T == "NoneType"
  | .bl _ => T == "bool" || T == "int"
  | .int _ => T == "int"
  | .str _ => T == "str"
  | .tup _ => T == "tuple"
  | .lst _ => T == "list"
  | .dic _ _ => T == "dict"
  | .strm => T == "list"
theorem isi_key : ∀ T ∈ ["str", "int", "bool", "tuple", "list"], kitB "NoneType" T = some (T == "NoneType") ∧ kitB "bool" T = some (T == "bool" || T == "int") ∧ kitB "int" T = some (T == "int") ∧ kitB "str" T = some (T == "str") ∧ kitB "tuple" T = some (T == "tuple") ∧ kitB "list" T = some (T == "list") := by decide +kernel
def wIsi (T : String) (w : WE) : WE := fun ρ Q E => w ρ (fun r ρ' => ∃ p, look ρ' r = some p ∧ (match p with | .dic _ _ => False | .strm => False | _ => True) ∧ Q (.fz (.bl (isTy T p))) ρ') E
theorem qe_isi {T : String} {y : Str} {p p' : Pos} (hT : T ∈ ["str", "int", "bool", "tuple", "list"]) (hk : X.K = C.K) (hg : Gl X "isinstance") (hm : X.mg "isinstance" = none) (ha : QE X C a wa) (ht : PE X (.Name y p') (tC (.ty T)))
    (he : starEach [a, .Name y p'] X.env = (false, eval a X.env) :: starEach [.Name y p'] X.env := by rfl) (he2 : starEach [Expr.Name y p'] X.env = (false, eval (.Name y p') X.env) :: starEach [] X.env := by rfl)
    (hpl : (backTo pos (starEach [Expr.Name y p'] X.env)).any (·.1) = false := by rfl) : QE X C (.Call (.Name "isinstance" p) [a, .Name y p'] [] pos) (wIsi T wa) :=
  PE.imp (pe_callB call_isi hg hm (by decide +kernel) (pa_cons ha (pa_cons ht pa_nil he2) he) (by decide) (by decide) he hpl) fun σ H Q ⟨G, ρ, ts, Q', E', S, w, q, ee⟩ => ⟨G, ρ, ts, _, E', S, w, fun r ρ' ⟨p, e, hp, w⟩ v H' S' => by
    have t := S'.top List.mem_cons_self e
    have fin := q _ _ w (.bl (isTy T p)) H' (S'.pop.pushSc rfl)
    obtain ⟨k1, k2, k3, k4, k5, k6⟩ := isi_key T hT
    rw [hk]
    cases p with
    | non => rw [t.non]; exact ⟨.non, .ty T, _, _, _, rfl, .ty T, .base .non, kit_ty k1, fin⟩
    | bl b => rw [t.bl]; exact ⟨.bl b, .ty T, _, _, _, rfl, .ty T, .base (.bl b), kit_ty k2, fin⟩
    | int b => rw [t.int]; exact ⟨.int b, .ty T, _, _, _, rfl, .ty T, .base (.int b), kit_ty k3, fin⟩
    | str b => rw [t.str]; exact ⟨.str b, .ty T, _, _, _, rfl, .ty T, .base (.str b), kit_ty k4, fin⟩
    | tup l =>
      obtain ⟨a, vs, rfl, h1, _⟩ := t
      refine ⟨.ref a, .ty T, _, _, _, rfl, .ty T, ?_, kit_ty k5, fin⟩
      rcases h1 with (h1 | ⟨o, h1⟩) | ⟨o, its, n, h1, h2, _⟩
      · exact .base (.tup h1)
      · exact .fTuple h1
      · exact .kTuple h1 h2
    | lst l =>
      obtain ⟨a, vs, rfl, h1, _⟩ := t
      exact ⟨.ref a, .ty T, _, _, _, rfl, .ty T, .base (.lst h1), kit_ty k6, fin⟩
    | dic k l => exact hp.elim
    | strm => exact hp.elim, ee⟩
/-! ### calls of defs -/
abbrev WF := List PV → (AV → Prop) → (PX → Prop) → Prop
/-- a def's promise over trees -/
def spW (C : CC) (n : Nat) (w : WF) : Sp := fun vs H Q E => ∃ (G : Gh) (ps : List PV) (Q' : AV → Prop) (E' : PX → Prop), G.H0 = H ∧ saOk G.sa H ∧ (∀ l s, G.sa = some (l, s) → G.O s) ∧ (∀ a, G.O a → H a ≠ none) ∧ Reps C.K G.sa (msk G.O H) ps vs ∧ ps.length = n ∧ w ps Q' E' ∧
  (∀ r, Q' r → ∀ v H', Retn C.K G r v H' → Q v H') ∧ ∀ e, E' e → ∀ cls d H', ExR C G e cls d H' → E cls d H'
theorem spW.len {n : Nat} {w : WF} {vs : List V} {Q : VK} {E : XK} (h : spW C n w vs H Q E) : vs.length = n := by
  obtain ⟨G, ps, Q', E', _, _, _, _, h, hl, _⟩ := h
  rw [h.length, hl]
/-- f(..): the values are let go -/
def wCall (f : WF) (wr : WA) : WE := fun ρ Q E => wr ρ (fun rs ρ' => match fzAll ρ' rs with
  | some (ps, ρ2) => f ps (fun r => Q r ρ2) E
  | none => False) E
theorem OA.there (S : Sta K G ρ ts σ H) {a : Addr} (h : OA G ρ ts σ a) : H a ≠ none := fun n => Rep.ow_same S n h
theorem qe_call {CX : CXT} {k n : Nat} {f : Addr} {fd : FuncData} {ps : List Str} {wf : WF} {x : Str} {p : Pos} (F : FnOk X.prog X.w X.K X.mg X.base CX k f fd ps (spW ⟨C.K, C.mg, fun _ _ _ => False⟩ n wf)) (hn : ∀ rs ps' ρ ρ2, fzAll ρ rs = some (ps', ρ2) → True) (hr : Room k X.A) (hg : Gl X x) (hm : X.mg x = some (.ref f)) (hk : PySem.W.keepIn X.K (.ref f) = true) (hb : Binds X.K fd ps []) (hx : Passes CX X C.E0)
    (ha : QA X C (e :: es) wr) (hdb : (x == ("__debug__" : Str)) = false := by decide) (he : starEach (e :: es) X.env = (false, eval e X.env) :: starEach es X.env := by rfl) (hpl : (backTo pos (starEach es X.env)).any (·.1) = false := by rfl) :
    QE X C (.Call (.Name x p) (e :: es) [] pos) (wCall (fun qs Q E => qs.length = n ∧ wf qs Q E) wr) :=
  PE.imp (pe_call F hr hg hm hk hb .nil hx ha hdb he hpl) fun σ H Q ⟨G, ρ, ts, Q', E', S, w, q, ee⟩ => ⟨G, ρ, ts, _, E', S, w, fun rs ρ' w vs H' hl S' => by
    obtain ⟨ps, ρ2, ef, hn, w⟩ := fz_split w
    obtain ⟨h1, S2⟩ := S'.fzAll hl ef
    have R := S2.argsRep (by omega)
    have S3 := S2.dropN
    rw [List.append_nil]
    refine ⟨⟨G.sa, H', OA G ρ2 ts σ⟩, ps, _, _, rfl, S3.sk, fun l s e => .inr (S3.so l s e), fun a h => h.there S3, R, hn, w, fun r w v H2 hr => q _ _ w _ _ (S3.ret hr), fun e w cls d H2 hx => ee e w cls d H2 ?_⟩
    obtain ⟨x1, x2, A, dx, us, x3, x4, x5, x6, x7⟩ := hx
    exact ⟨S3.fr.trans x1, x2, A, dx, us, x3, x4, x5, x6, Reps.same (msk_same fun a o n e => ⟨fun z => n (.inr z), e⟩) x7⟩, ee⟩
/-! ### methods -/
theorem ty_list {v : V} {l : List PV} (t : Top K sa Hm H (.lst l) v) : tyV K "list" v H := by
  obtain ⟨a, vs, rfl, h, _⟩ := t
  exact .inl ⟨rfl, vs, SqL.of h⟩
/-- the list that a slot holds alone, at hand as a temporary -/
theorem Sta.brOw {i : Nat} {v : V} {p : PV} (S : Sta K G ρ ts σ H) (hm : (AV.br i, v) ∈ ts) (h : ρ[i]? = some (some (.ow p))) : ∃ a, v = .ref a ∧ σ[i]? = some (some (.ref a)) ∧ Obj1 K G.sa (msk (OA G ρ ts σ) H) H a p := by
  have t : σ[i]? = some (some v) := S.tmp _ hm
  obtain ⟨u, e1, a, rfl, o⟩ := S.slot i _ h
  rw [t] at e1
  cases e1
  exact ⟨a, rfl, t, o⟩
theorem fz1_br {i : Nat} {r : AV} {p : PV} {l : PV} (hf : fz1 ρ r = some (p, ρ')) (h : ρ'[i]? = some (some (.ow l))) : ρ[i]? = some (some (.ow l)) := by
  cases r with
  | fz q => cases hf; exact h
  | ow q => cases hf; exact h
  | br j =>
    simp only [fz1] at hf
    split at hf
    · cases hf; exact h
    · rename_i q e
      cases hf
      by_cases z : j = i
      · subst z
        rw [List.getElem?_set_self (List.getElem?_eq_some_iff.mp e).1] at h
        cases h
      · rw [List.getElem?_set_ne z] at h
        exact h
    · cases hf
/-- the item that was taken out, behind the change -/
theorem Rep.mutated {i : Nat} {p p' y : PV} {v : V} {a : Addr} {o : HO} (e3 : ρ[i]? = some (some (.ow p))) (hσ : σ[i]? = some (some (.ref a))) (hu : Rep K sa (msk (OA G ρ ts σ) H) y v) : Rep K sa (msk (OA G (ρ.set i (some (.ow p'))) ts σ) (upd H a o)) y v := by
  refine Rep.same (msk_same fun b o n e => ?_) hu
  have oa : OA G ρ ts σ a := .inl (.inl ⟨i, (.ow p, .ref a), ⟨e3, hσ⟩, .ow⟩)
  have nb : b ≠ a := fun z => n (z ▸ oa)
  refine ⟨fun z => n (z.imp (fun z => ?_) id), by rw [upd_ne nb]; exact e⟩
  rcases z with ⟨j, f, hs, hw⟩ | hw
  · by_cases hj : j = i
    · obtain ⟨h1, h2⟩ := hs
      obtain ⟨_, h3⟩ := hw
      rw [hj, hσ, h3] at h2
      cases h2
      exact absurd rfl nb
    · obtain ⟨h1, h2⟩ := hs
      rw [List.getElem?_set_ne (Ne.symm hj)] at h1
      exact .inl ⟨j, f, ⟨h1, h2⟩, hw⟩
  · exact .inr hw
/-- what a method of one argument does to a list that a name alone holds -/
abbrev WM := List PV → AV → En → (List PV → AV → En → Prop) → Prop
/-- o.m(e), o a name that holds a list alone: k the list, the argument, gives the new list and the result -/
def wM1 (k : List PV → PV → (List PV → PV → Prop) → Prop) (wo we : WE) : WE := fun ρ Q E => wo ρ (fun r ρ1 => ∃ i l0, r = .br i ∧ look ρ1 r = some (.lst l0) ∧ we ρ1 (fun re ρ2 => ∃ p ρ3 l, fz1 ρ2 re = some (p, ρ3) ∧ ρ3[i]? = some (some (.ow (.lst l))) ∧
  k l p fun l' res => Q (.fz res) (ρ3.set i (some (.ow (.lst l'))))) E) E
def MeP (C : CC) (k : List PV → PV → (List PV → PV → Prop) → Prop) (r : V → List V → Hp → VK → Prop) : Prop := ∀ (sa : SA) (P : Addr → Prop) (H : Hp) (a : Addr) (vs : List V) (l : List PV) (y : V) (p : PV) (Q' : List PV → PV → Prop) (Q : VK), H a = some (.lst vs) → P a → Reps C.K sa (msk P H) l vs →
  Rep C.K sa (msk P H) p y → k l p Q' → (∀ l' res vs' u, Q' l' res → Reps C.K sa (msk P H) l' vs' → Rep C.K sa (msk P H) res u → Q u (upd H a (.lst vs'))) → r (.ref a) [y] H Q
theorem qe_m1 {k : List PV → PV → (List PV → PV → Prop) → Prop} {r : V → List V → Hp → VK → Prop} {name : Str} {mid : String} {apos : Pos} {o : Expr} {wo we : WE} (hp : MeP C k r) (hk : X.K = C.K) (slot : Slot "list" name mid) (hty : typeOf (.builtin mid) = pure (.type "method_descriptor")) (hm : MtR X mid r) (ho : QE X C o wo) (he : QE X C e we)
    (hbase : attributeBase o name X.env (eval o X.env) = eval o X.env := by rfl)
    (hfew : ((backTo pos (starEach [e] X.env)).all (fun x => !x.1) && (backToKw pos (keywordEach [] X.env)).all (fun x => x.1.isSome)
      && decide (([e] : List Expr).length + ([] : List Keyword).length + (if ([] : List Keyword).isEmpty then 0 else 1) < 30)) = true := by rfl)
    (hline : (apos.endLine == pos.line) = true := by rfl) (hs : starEach [e] X.env = (false, eval e X.env) :: starEach [] X.env := by rfl) (hplain : (backTo pos (starEach [] X.env)).any (·.1) = false := by rfl) :
    QE X C (.Call (.Attribute o name apos) [e] [] pos) (wM1 k wo we) :=
  PE.imp (pe_bm PySem.F.plainAttrs_list slot hty hm ho (pa_cons he pa_nil hs) hbase hfew hline hs hplain) fun σ H Q ⟨G, ρ, ts, Q', E', S, w, q, ee⟩ => ⟨G, ρ, ts, _, E', S, w, fun r0 ρ1 ⟨i, l0, er, el, w⟩ x H1 S1 => by
    refine ⟨hk ▸ ty_list (S1.top List.mem_cons_self el), G, ρ1, (r0, x) :: ts, _, E', S1, w, fun re ρ2 ⟨p, ρ3, l, ef, e3, w⟩ y H2 S2 => ?_, ee⟩
    subst er
    have S3 := S2.fz1 ef
    obtain ⟨a, rfl, hσ, vs, ha, hr⟩ := S3.brOw mem1 e3
    refine hp G.sa _ H2 a vs l y p _ Q ha (.inl (.inl ⟨i, (.ow (.lst l), .ref a), ⟨e3, hσ⟩, .ow⟩)) hr (S3.tmp _ List.mem_cons_self) w fun l' res vs' u w hv hu => ?_
    have S4 := S3.mut (o := .lst vs') e3 hσ (p' := .lst l') ⟨vs', upd_same, hv⟩
    exact q _ _ w _ _ (S4.pop.pop.push (Rep.popped (Rep.popped (Rep.mutated e3 hσ hu)))), ee⟩
def kAppend : List PV → PV → (List PV → PV → Prop) → Prop := fun l p Q => l.length < sizeLine ∧ Q (l ++ [p]) .non
theorem me_append : MeP C kAppend rAppend := fun sa P H a vs l y p Q' Q ha hP hr hy ⟨hz, w⟩ q => ⟨a, vs, y, rfl, rfl, ha, by rw [hr.length]; exact hz, q _ _ _ _ w (Reps.append hr (Reps.cons hy Reps.nil)) (by unfold Rep; rfl)⟩
def kExtend : List PV → PV → (List PV → PV → Prop) → Prop := fun l p Q => ∃ m, p = .lst m ∧ l.length + m.length ≤ sizeLine ∧ Q (l ++ m) .non
theorem me_extend : MeP C kExtend rExtend := fun sa P H a vs l y p Q' Q ha hP hr hy ⟨m, em, hz, w⟩ q => by
  subst em
  unfold Rep at hy
  obtain ⟨b, us, rfl, hb, hu⟩ := hy
  exact ⟨a, b, vs, us, rfl, rfl, ha, msk_top _ _ hb, by rw [hr.length, hu.length]; exact hz, q _ _ _ _ w (Reps.append hr hu) (by unfold Rep; rfl)⟩
theorem Reps.eraseIdx : ∀ {ps : List PV} {vs : List V} (i : Nat), Reps K sa H ps vs → Reps K sa H (ps.eraseIdx i) (vs.eraseIdx i)
  | [], _, _, h => by unfold Reps at h; subst h; exact Reps.nil
  | q :: ps, _, 0, h => by
    unfold Reps at h
    obtain ⟨u, r, rfl, h1, h2⟩ := h
    exact h2
  | q :: ps, _, i + 1, h => by
    unfold Reps at h
    obtain ⟨u, r, rfl, h1, h2⟩ := h
    exact Reps.cons h1 (Reps.eraseIdx i h2)
/-- pop(k), k an index from 0 on -/
def kPopAt : List PV → PV → (List PV → PV → Prop) → Prop := fun l p Q => ∃ (k : Nat) (y : PV), p = .int (k : Nat) ∧ l[k]? = some y ∧ l.length ≤ sizeLine ∧ Q (l.eraseIdx k) y
theorem me_popAt : MeP C kPopAt rPopAt := fun sa P H a vs l y p Q' Q ha hP hr hy ⟨k, z, ep, ek, hz, w⟩ q => by
  subst ep
  unfold Rep at hy
  subst hy
  obtain ⟨u, e1, e2⟩ := hr.get ek
  have hl := hr.length
  have hk := (List.getElem?_eq_some_iff.mp e1).1
  rw [sizeLine_eq] at hz
  exact ⟨a, vs, k, k, u, rfl, rfl, ha, by omega, by omega, PySem.StrLaws.seqIndex_nonneg (by omega) (by omega), e1, q _ _ _ _ w (hr.eraseIdx k) e2⟩
/-- o.pop() -/
def wPop (wo : WE) : WE := fun ρ Q E => wo ρ (fun r ρ1 => ∃ i l y, r = .br i ∧ ρ1[i]? = some (some (.ow (.lst l))) ∧ l[l.length - 1]? = some y ∧ Q (.fz y) (ρ1.set i (some (.ow (.lst l.dropLast))))) E
theorem Reps.dropLast {ps : List PV} {vs : List V} (h : Reps K sa H ps vs) : Reps K sa H ps.dropLast vs.dropLast := by
  rw [List.dropLast_eq_take, List.dropLast_eq_take, h.length]
  exact h.take _
theorem qe_pop {apos : Pos} {o : Expr} {wo : WE} (hk : X.K = C.K) (ho : QE X C o wo) (hbase : attributeBase o "pop" X.env (eval o X.env) = eval o X.env := by rfl) (hline : (apos.endLine == pos.line) = true := by rfl) :
    QE X C (.Call (.Attribute o "pop" apos) [] [] pos) (wPop wo) :=
  PE.imp (pe_bm0 PySem.F.plainAttrs_list PySem.F.slot_list_pop PySem.F.type_list_pop mt_pop ho hbase hline) fun σ H Q ⟨G, ρ, ts, Q', E', S, w, q, ee⟩ => ⟨G, ρ, ts, _, E', S, w, fun r0 ρ1 ⟨i, l, y, er, e3, el, w⟩ x H1 S1 => by
    subst er
    obtain ⟨a, rfl, hσ, vs, ha, hr⟩ := S1.brOw List.mem_cons_self e3
    have hl := hr.length
    obtain ⟨u, e1, e2⟩ := hr.get el
    refine ⟨hk ▸ .inl ⟨rfl, vs, SqL.of ha⟩, a, vs, u, rfl, rfl, ha, by rw [hl]; exact e1, ?_⟩
    have S4 := S1.mut (o := .lst vs.dropLast) e3 hσ (p' := .lst l.dropLast) ⟨_, upd_same, hr.dropLast⟩
    exact q _ _ w _ _ (S4.pop.push (Rep.popped (Rep.mutated e3 hσ e2))), ee⟩
end SyP
set_option autoImplicit false
/-! Pure words 6: targets, statements, loops, comprehensions. -/
namespace SyP
open PySem PySem.Spec PyProof.Rows L2 Sy
variable {K : PySem.W.Frag} {sa : SA} {H H' Hm : Hp} {G : Gh} {ρ ρ' : En} {ts ts' : Ts} {σ σ' : L2.St} {C : CC} {X : Cx} {a b c : Expr} {pos p2 : Pos} {wa wb wc w : WE} {e : Expr} {es : List Expr} {wr : WA}
/-- a temporary is stored at a slot that no other temporary looks at -/
theorem Sta.put {i : Nat} {r : AV} {v : V} (S : Sta K G ρ ((r, v) :: ts) σ H) (nr : ∀ j, r ≠ .br j) (nb : ∀ e ∈ ts, e.1 ≠ .br i) (li : i < ρ.length) : Sta K G (ρ.set i (some r)) ts (σ.set i (some v)) H := by
  have lσ : i < σ.length := by rw [← S.len]; exact li
  have sl : ∀ {j : Nat} {e : AV × V}, SlAt (ρ.set i (some r)) (σ.set i (some v)) j e → (j = i ∧ e = (r, v)) ∨ (j ≠ i ∧ SlAt ρ σ j e) := fun {j e} q => by
    by_cases z : j = i
    · subst z
      obtain ⟨e1, e2⟩ := q.set_eq
      obtain ⟨e3, e4⟩ := e
      cases e1
      cases e2
      exact .inl ⟨rfl, rfl⟩
    · exact .inr ⟨z, q.set_ne z⟩
  have eq : ∀ b, Owns (ρ.set i (some r)) ts (σ.set i (some v)) b → Owns ρ ((r, v) :: ts) σ b := fun b z => by
    rcases z with ⟨j, e, hs, z⟩ | ⟨e, he, z⟩
    · rcases sl hs with ⟨_, rfl⟩ | ⟨_, hs⟩
      · exact .inr ⟨_, List.mem_cons_self, z⟩
      · exact .inl ⟨j, e, hs, z⟩
    · exact .inr ⟨e, List.mem_cons_of_mem _ he, z⟩
  have hd := List.pairwise_cons.mp S.dT
  refine S.gen (by rw [List.length_set, List.length_set]; exact S.len) (fun b o _ _ e => e) S.sk (fun b z nb => absurd (eq b z) nb) (fun b u nb e z => nb (.inl (eq b z))) (fun sm j q e => ?_) (fun sm e he => ?_) (fun j k e f b hs hf x y => ?_) (fun j e f b hs hf x y => ?_) hd.2 (fun e he j ej => ?_)
  · by_cases z : j = i
    · subst z
      rw [List.getElem?_set_self li] at e
      cases e
      refine ⟨_, List.getElem?_set_self lσ, ?_⟩
      have t := S.tmp _ List.mem_cons_self
      cases r with
      | fz p => exact Rep.same sm t
      | ow p =>
        obtain ⟨b, e, o⟩ := t
        exact ⟨b, e, o.same sm fun o e => e⟩
      | br j => exact absurd rfl (nr j)
    · rw [List.getElem?_set_ne (Ne.symm z)] at e
      obtain ⟨u, e1, e2⟩ := S.slot j q e
      refine ⟨u, by rw [List.getElem?_set_ne (Ne.symm z)]; exact e1, ?_⟩
      cases q with
      | fz p => exact Rep.same sm e2
      | ow p =>
        obtain ⟨b, rfl, o⟩ := e2
        exact ⟨b, rfl, o.same sm fun o e => e⟩
      | br j => exact e2
  · have t := S.tmp e (List.mem_cons_of_mem _ he)
    have nbe := nb e he
    obtain ⟨q, u⟩ := e
    cases q with
    | fz p => exact Rep.same sm t
    | ow p =>
      obtain ⟨b, e, o⟩ := t
      exact ⟨b, e, o.same sm fun o e => e⟩
    | br j =>
      have t : σ[j]? = some (some u) := t
      show (σ.set i (some v))[j]? = _
      rw [List.getElem?_set_ne (fun z => nbe (by rw [z]))]
      exact t
  · rcases sl hs with ⟨z1, rfl⟩ | ⟨z1, hs⟩
    · rcases sl hf with ⟨z2, rfl⟩ | ⟨z2, hf⟩
      · rw [z1, z2]
      · exact (S.dX k f (r, v) b hf List.mem_cons_self y x).elim
    · rcases sl hf with ⟨z2, rfl⟩ | ⟨z2, hf⟩
      · exact (S.dX j e (r, v) b hs List.mem_cons_self x y).elim
      · exact S.dS j k e f b hs hf x y
  · rcases sl hs with ⟨z1, rfl⟩ | ⟨z1, hs⟩
    · exact hd.1 f hf b x y
    · exact S.dX j e f b hs (List.mem_cons_of_mem _ hf) x y
  · obtain ⟨q, hq⟩ := S.brn e (List.mem_cons_of_mem _ he) j ej
    by_cases z : j = i
    · subst z
      exact ⟨_, List.getElem?_set_self li⟩
    · exact ⟨q, by rw [List.getElem?_set_ne (Ne.symm z)]; exact hq⟩
/-- fewer slots known -/
theorem Sta.less {ρ' : En} {σ' : L2.St} (S : Sta K G ρ ts σ H) (hl : ρ'.length = σ'.length) (h : ∀ (i : Nat) (r : AV), ρ'[i]? = some (some r) → ρ[i]? = some (some r) ∧ σ'[i]? = σ[i]?) (nb : ∀ e ∈ ts, ∀ i, e.1 = .br i → (∃ r, ρ'[i]? = some (some r)) ∧ σ'[i]? = σ[i]?) : Sta K G ρ' ts σ' H := by
  have sl : ∀ {j : Nat} {e : AV × V}, SlAt ρ' σ' j e → SlAt ρ σ j e := fun {j e} q => by
    obtain ⟨h1, h2⟩ := h j e.1 q.1
    exact ⟨h1, by rw [← h2]; exact q.2⟩
  have eq : ∀ b, Owns ρ' ts σ' b → Owns ρ ts σ b := fun b z => by
    rcases z with ⟨j, e, hs, z⟩ | z
    · exact .inl ⟨j, e, sl hs, z⟩
    · exact .inr z
  refine S.gen hl (fun b o _ _ e => e) S.sk (fun b z nb => absurd (eq b z) nb) (fun b u nb e z => nb (.inl (eq b z))) (fun sm j q e => ?_) (fun sm e he => ?_) (fun j k e f b hs hf x y => S.dS j k e f b (sl hs) (sl hf) x y) (fun j e f b hs hf x y => S.dX j e f b (sl hs) hf x y) S.dT (fun e he j ej => (nb e he j ej).1)
  · obtain ⟨h1, h2⟩ := h j q e
    obtain ⟨u, e1, e2⟩ := S.slot j q h1
    refine ⟨u, by rw [h2]; exact e1, ?_⟩
    cases q with
    | fz p => exact Rep.same sm e2
    | ow p =>
      obtain ⟨b, rfl, o⟩ := e2
      exact ⟨b, rfl, o.same sm fun o e => e⟩
    | br j => exact e2
  · have t := S.tmp e he
    have nbe := nb e he
    obtain ⟨q, u⟩ := e
    cases q with
    | fz p => exact Rep.same sm t
    | ow p =>
      obtain ⟨b, e, o⟩ := t
      exact ⟨b, e, o.same sm fun o e => e⟩
    | br j =>
      have t : σ[j]? = some (some u) := t
      show σ'[j]? = _
      rw [(nbe j rfl).2]
      exact t
/-! ### targets -/
abbrev WTg := PV → En → (En → Prop) → Prop
def NoBr (is : List Nat) (ts : Ts) : Prop := ∀ e ∈ ts, ∀ i ∈ is, e.1 ≠ .br i
def tPG (C : CC) (is : List Nat) (wt : WTg) : TG := fun v σ H Q => ∃ G ρ ts p Q', NoBr is ts ∧ Sta C.K G ρ ((.fz p, v) :: ts) σ H ∧ wt p ρ Q' ∧ ∀ ρ', Q' ρ' → ∀ σ' H', Sta C.K G ρ' ts σ' H' → σ'.length = σ.length → (∀ j, j ∉ is → σ'[j]? = σ[j]?) → Q σ' H'
def QG (X : Cx) (C : CC) (tg : Expr) (is : List Nat) (wt : WTg) : Prop := PG X tg (tPG C is wt)
theorem PG.imp {tg : Expr} {t t' : TG} (h : PG X tg t) (i : ∀ v σ H Q, t' v σ H Q → t v σ H Q) : PG X tg t' := ⟨fun pins s σ H v u Q I r q => h.run pins s σ H v u Q I r (i v σ H Q q)⟩
def wgN (i : Nat) : WTg := fun p ρ Q => i < ρ.length ∧ Q (ρ.set i (some (.fz p)))
theorem qg_name {i : Nat} {x : Str} (h : PG X (.Name x pos) (gName i)) : QG X C (.Name x pos) [i] (wgN i) :=
  PG.imp h fun v σ H Q ⟨G, ρ, ts, p, Q', nb, S, w, q⟩ => q _ w.2 _ _ (S.put (fun _ z => nomatch z) (fun e he => nb e he i (by simp)) w.1) (by rw [List.length_set]) fun j hj => by
    rw [List.getElem?_set_ne (fun z => hj (by simp [z]))]
abbrev WTgs := List PV → En → (En → Prop) → Prop
def tPGs (C : CC) (is : List Nat) (wt : WTgs) : TGs := fun vs σ H Q => ∃ G ρ ts ps Q', NoBr is ts ∧ vs.length = ps.length ∧ Sta C.K G ρ (((ps.map AV.fz).zip vs) ++ ts) σ H ∧ wt ps ρ Q' ∧ ∀ ρ', Q' ρ' → ∀ σ' H', Sta C.K G ρ' ts σ' H' → σ'.length = σ.length → (∀ j, j ∉ is → σ'[j]? = σ[j]?) → Q σ' H'
def QGs (X : Cx) (C : CC) (tg : List Expr) (is : List Nat) (wt : WTgs) : Prop := PGs X tg (tPGs C is wt)
theorem PGs.imp {tg : List Expr} {t t' : TGs} (h : PGs X tg t) (i : ∀ v σ H Q, t' v σ H Q → t v σ H Q) : PGs X tg t' := ⟨fun pins s σ H v u Q I r q => h.run pins s σ H v u Q I r (i v σ H Q q)⟩
def wgNil : WTgs := fun ps ρ Q => ps = [] ∧ Q ρ
def wgCons (t : WTg) (u : WTgs) : WTgs := fun ps ρ Q => ∃ p r, ps = p :: r ∧ t p ρ fun ρ' => u r ρ' Q
theorem qgs_nil : QGs X C [] [] wgNil := PGs.imp pgs_nil fun vs σ H Q ⟨G, ρ, ts, ps, Q', nb, hl, S, w, q⟩ => by
  obtain ⟨rfl, w⟩ := w
  have : vs = [] := List.eq_nil_of_length_eq_zero hl
  subst this
  exact ⟨rfl, q _ w _ _ S rfl fun _ _ => rfl⟩
theorem qgs_cons {e : Expr} {es : List Expr} {is js : List Nat} {t : WTg} {u : WTgs} (h1 : QG X C e is t) (h2 : QGs X C es js u) (hs : (assignEach (e :: es) X.env).map (·.2) = assign e X.env :: (assignEach es X.env).map (·.2) := by rfl) : QGs X C (e :: es) (is ++ js) (wgCons t u) :=
  PGs.imp (pgs_cons h1 h2 hs) fun vs σ H Q ⟨G, ρ, ts, ps, Q', nb, hl, S, w, q⟩ => by
    obtain ⟨p, r, rfl, w⟩ := w
    match vs, hl with
    | v :: vs, hl =>
      have hl : vs.length = r.length := Nat.succ.inj hl
      refine ⟨v, vs, rfl, G, ρ, _, p, _, fun e he i hi => ?_, S, w, fun ρ' w σ' H' S' l1 k1 => ⟨G, ρ', ts, r, Q', fun e he i hi => nb e he i (List.mem_append_right _ hi), hl, S', w, fun ρ2 w2 σ2 H2 S2 l2 k2 => q _ w2 _ _ S2 (l2.trans l1) fun j hj => ?_⟩⟩
      · rcases List.mem_append.mp he with he | he
        · obtain ⟨x, y⟩ := e
          obtain ⟨z, _, rfl⟩ := List.mem_map.mp (List.of_mem_zip he).1
          exact fun z => nomatch z
        · exact nb e he i (List.mem_append_left _ hi)
      · rw [k2 j (fun z => hj (List.mem_append_right _ z)), k1 j (fun z => hj (List.mem_append_left _ z))]
/-- a, b = a tuple -/
def wgTup (n : Nat) (u : WTgs) : WTg := fun p ρ Q => ∃ ps, p = .tup ps ∧ ps.length = n ∧ u ps ρ Q
theorem Sta.spread {a : Addr} {vs : List V} {ps : List PV} : ∀ {ps : List PV} {vs : List V} {ts : Ts}, Sta K G ρ ts σ H → Reps K G.sa (msk (OA G ρ ts σ) H) ps vs → Sta K G ρ (((ps.map AV.fz).zip vs) ++ ts) σ H
  | [], _, _, S, h => S
  | p :: ps, vs, ts, S, h => by
    unfold Reps at h
    obtain ⟨v, r, rfl, h1, h2⟩ := h
    have S1 := Sta.spread (a := a) (vs := vs) (ps := ps) S h2
    refine S1.push (Rep.same (msk_same fun b o n e => ⟨fun z => n (z.imp (fun z => ?_) id), e⟩) h1)
    rcases z with z | ⟨f, hf, z⟩
    · exact .inl z
    · rcases List.mem_append.mp hf with hf | hf
      · obtain ⟨x, y⟩ := f
        obtain ⟨q, _, rfl⟩ := List.mem_map.mp (List.of_mem_zip hf).1
        exact z.not_fz.elim
      · exact .inr ⟨f, hf, z⟩
theorem qg_tup {es : List Expr} {k n : Nat} {is : List Nat} {u : WTgs} (hk : X.K = C.K) (hc : X.calm = true) (h : QGs X C es is u) (hn : (assignEach es X.env).length = n := by rfl) (hst : (assignEach es X.env).findIdx? (·.1) = none := by rfl) : QG X C (.Tuple es k pos) is (wgTup n u) :=
  PG.imp (pg_tup hc h hn hst) fun v σ H Q ⟨G, ρ, ts, p, Q', nb, S, w, q⟩ => by
    obtain ⟨ps, rfl, hl, w⟩ := w
    have t := S.tmp _ List.mem_cons_self
    unfold Tmp Ent Rep at t
    obtain ⟨a, vs, rfl, h1, h2⟩ := t
    have hv := h2.length
    exact ⟨a, vs, rfl, hk ▸ SqT.same msk_top h1, by omega, G, ρ, ts, ps, Q', nb, hv, S.pop.spread (a := a) (vs := vs) (ps := ps) (Reps.popped h2), w, q⟩
/-! ### statements -/
structure PD where
  nx : En → Prop
  rt : AV → Prop
  bk : En → Prop
  ct : En → Prop
  ex : PX → Prop
abbrev WS := PD → En → Prop
def FzT (ts : Ts) : Prop := ∀ e ∈ ts, ∃ p, e.1 = AV.fz p
theorem FzT.noBr {is : List Nat} (h : FzT ts) : NoBr is ts := fun e he i _ z => by
  obtain ⟨p, hp⟩ := h e he
  rw [hp] at z
  cases z
structure DOk (C : CC) (G : Gh) (ts : Ts) (P : PD) (D : Ends) : Prop where
  nx : ∀ ρ, P.nx ρ → ∀ σ H, Sta C.K G ρ ts σ H → D.nx σ H
  rt : ∀ r, P.rt r → ∀ v H, Retn C.K G r v H → D.rt v H
  bk : ∀ ρ, P.bk ρ → ∀ σ H, Sta C.K G ρ ts σ H → D.bk σ H
  ct : ∀ ρ, P.ct ρ → ∀ σ H, Sta C.K G ρ ts σ H → D.ct σ H
  ex : EEx C G P.ex
def tPS (C : CC) (w : WS) : TS := fun D σ H => ∃ G ρ ts P, FzT ts ∧ Sta C.K G ρ ts σ H ∧ w P ρ ∧ DOk C G ts P D
def QS (X : Cx) (C : CC) (s : Stmt) (w : WS) : Prop := PS X s (tPS C w)
def QSs (X : Cx) (C : CC) (s : List Stmt) (w : WS) : Prop := PSs X s (tPS C w)
theorem PS.imp {s : Stmt} {t t' : TS} (h : PS X s t) (i : ∀ D σ H, t' D σ H → t D σ H) : PS X s t' := ⟨fun pins s σ H D I q => h.run pins s σ H D I (i D σ H q)⟩
theorem PSs.imp {s : List Stmt} {t t' : TS} (h : PSs X s t) (i : ∀ D σ H, t' D σ H → t D σ H) : PSs X s t' := ⟨fun pins s σ H D I q => h.run pins s σ H D I (i D σ H q)⟩
variable {st : Stmt} {sts : List Stmt} {ws us : WS}
def wNext : WS := fun P ρ => P.nx ρ
def wSeq (w u : WS) : WS := fun P ρ => w { P with nx := u P } ρ
theorem qss_nil : QSs X C [] wNext := PSs.imp pss_nil fun D σ H ⟨G, ρ, ts, P, ft, S, w, d⟩ => d.nx _ w _ _ S
theorem qss_cons (h1 : QS X C st ws) (h2 : QSs X C sts us) : QSs X C (st :: sts) (wSeq ws us) :=
  PSs.imp (pss_cons h1 h2) fun D σ H ⟨G, ρ, ts, P, ft, S, w, d⟩ => ⟨G, ρ, ts, _, ft, S, w, fun ρ' w σ' H' S' => ⟨G, ρ', ts, P, ft, S', w, d⟩, d.rt, d.bk, d.ct, d.ex⟩
theorem qss_one (h1 : QS X C st ws) : QSs X C [st] ws := pss_one h1
/-- a slot is forgotten, a held one let go: no step of the program -/
theorem qss_forget {i : Nat} (h : QSs X C sts us) : QSs X C sts (fun P ρ => us P (ρ.set i none)) :=
  PSs.imp h fun D σ H ⟨G, ρ, ts, P, ft, S, w, d⟩ => ⟨G, ρ.set i none, ts, P, ft, S.less (by rw [List.length_set]; exact S.len) (fun j r e => ⟨by
    by_cases z : i = j
    · subst z
      by_cases hl : i < ρ.length
      · rw [List.getElem?_set_self hl] at e
        cases e
      · rw [List.getElem?_eq_none (by rw [List.length_set]; omega)] at e
        cases e
    · rwa [List.getElem?_set_ne z] at e, rfl⟩) (fun e he j ej => by
      obtain ⟨p, hp⟩ := ft e he
      rw [hp] at ej
      cases ej), w, d⟩
def frzS (ρ : En) (i : Nat) : En := match ρ[i]? with
  | some (some (.ow p)) => ρ.set i (some (.fz p))
  | _ => ρ
theorem qss_frz {i : Nat} (h : QSs X C sts us) : QSs X C sts (fun P ρ => us P (frzS ρ i)) :=
  PSs.imp h fun D σ H ⟨G, ρ, ts, P, ft, S, w, d⟩ => ⟨G, frzS ρ i, ts, P, ft, by
    unfold frzS
    split
    · rename_i p e
      exact S.frzSlot e
    · exact S, w, d⟩
/-- name = e -/
def wKeep (ρ : En) (r : AV) (k : AV → En → Prop) : Prop := match keepA ρ r with
  | some (r', ρ') => k r' ρ'
  | none => False
def wSet (i : Nat) (we : WE) : WS := fun P ρ => we ρ (fun r ρ1 => wKeep ρ1 r fun r' ρ2 => i < ρ2.length ∧ P.nx (ρ2.set i (some r'))) P.ex
theorem keepA_nb {r r' : AV} (h : keepA ρ r = some (r', ρ')) : ∀ j, r' ≠ .br j := fun j z => by
  subst z
  cases r with
  | fz p => cases h
  | ow p => cases h
  | br k =>
    simp only [keepA] at h
    split at h <;> cases h
theorem tSet_of {i : Nat} {we : WE} {D : Ends} {σ : L2.St} {H : Hp} (h : tPS C (wSet i we) D σ H) : tAsg (tP C we) (gName i) D σ H := by
  obtain ⟨G, ρ, ts, P, ft, S, w, d⟩ := h
  refine ⟨G, ρ, ts, _, P.ex, S, w, fun r ρ1 w v H1 S1 => ?_, d.ex⟩
  unfold wKeep at w
  split at w
  · rename_i r' ρ2 e
    exact d.nx _ w.2 _ _ ((S1.keepA e).put (keepA_nb e) (fun e he => ft.noBr e he i (List.mem_singleton.mpr rfl)) w.1)
  · exact w.elim
theorem qs_set {i : Nat} {x : Str} {we : WE} {pos' : Pos} (hN : X.N.Nodup) (hi : X.N[i]? = some x) (hx : Loc X.env.scope x) (he : QE X C e we) (hs : swapsWith e (some (.Name x pos')) pos.line X.env = pure false := by rfl) (hf : X.fn x = true ∨ X.env.scope.names.lookup x = some .local := by first | exact .inl rfl | exact .inr rfl | assumption) :
    QS X C (.Assign [.Name x pos'] e pos) (wSet i we) := PS.imp (ps_set hN hi hx he hs hf) fun _ _ _ h => tSet_of h
/-- a, b = e -/
def wAsg (we : WE) (wt : WTg) : WS := fun P ρ => we ρ (fun r ρ1 => match fz1 ρ1 r with
  | some (p, ρ2) => wt p ρ2 P.nx
  | none => False) P.ex
theorem qs_asg {tg : Expr} {we : WE} {is : List Nat} {wt : WTg} (he : QE X C e we) (hg : QG X C tg is wt) (hs : swapsWithSole [tg] e pos.line X.env = pure false := by rfl) (hw : swappedStores [tg] e X.env = pure none := by rfl) (h1 : (assignEach [tg] X.env).map (·.2) = [assign tg X.env] := by rfl) : QS X C (.Assign [tg] e pos) (wAsg we wt) :=
  PS.imp (ps_asg he hg hs hw h1) fun D σ H ⟨G, ρ, ts, P, ft, S, w, d⟩ => ⟨G, ρ, ts, _, P.ex, S, w, fun r ρ1 w v H1 S1 => by
    split at w
    · rename_i p ρ2 ef
      exact ⟨G, ρ2, ts, p, P.nx, ft.noBr, S1.fz1 ef, w, fun ρ' w σ' H' S' _ _ => d.nx _ w _ _ S'⟩
    · exact w.elim, d.ex⟩
/-- what is returned -/
def retA (ρ : En) : AV → Option AV
  | .fz p => some (.fz p)
  | .ow p => some (.ow p)
  | .br i => match ρ[i]? with
    | some (some (.fz p)) => some (.fz p)
    | some (some (.ow p)) => some (.ow p)
    | _ => none
def wRet (we : WE) : WS := fun P ρ => we ρ (fun r ρ1 => match retA ρ1 r with
  | some r' => P.rt r'
  | none => False) P.ex
theorem Sta.retn {r r' : AV} {v : V} (S : Sta K G ρ ((r, v) :: ts) σ H) (h : retA ρ r = some r') : Retn K G r' v H := by
  have fzc : ∀ {p : PV}, Rep K G.sa (msk (OA G ρ ((r, v) :: ts) σ) H) p v → Retn K G (.fz p) v H := fun {p} h => ⟨S.fr, S.sk, Rep.same (msk_same fun a o n e => ⟨fun z => n (.inr z), e⟩) h⟩
  have owc : ∀ {p : PV} {a : Addr}, v = .ref a → Owns ρ ((r, v) :: ts) σ a → Obj1 K G.sa (msk (OA G ρ ((r, v) :: ts) σ) H) H a p → Retn K G (.ow p) v H := fun {p a} e ho o =>
    ⟨S.fr, S.sk, a, e, S.new a ho, o.same (msk_same fun b o n e => ⟨fun z => n (z.elim (fun z => .inl (z ▸ ho)) .inr), e⟩) fun o e => e⟩
  have t := S.tmp _ List.mem_cons_self
  cases r with
  | fz p => cases h; exact fzc t
  | ow p =>
    cases h
    obtain ⟨a, e, o⟩ := t
    obtain rfl : v = .ref a := e
    exact owc rfl (.inr ⟨_, List.mem_cons_self, .ow⟩) o
  | br i =>
    have t : σ[i]? = some (some v) := t
    simp only [retA] at h
    split at h
    · rename_i p e
      cases h
      obtain ⟨u, e1, e2⟩ := S.slot i _ e
      rw [t] at e1
      cases e1
      exact fzc e2
    · rename_i p e
      cases h
      obtain ⟨u, e1, a, rfl, o⟩ := S.slot i _ e
      rw [t] at e1
      cases e1
      exact owc rfl (.inl ⟨i, (.ow p, .ref a), ⟨e, t⟩, .ow⟩) o
    · cases h
theorem qs_ret {we : WE} (he : QE X C e we) : QS X C (.Return (some e) pos) (wRet we) :=
  PS.imp (ps_ret he) fun D σ H ⟨G, ρ, ts, P, ft, S, w, d⟩ => ⟨G, ρ, ts, _, P.ex, S, w, fun r ρ1 w v H1 S1 => by
    split at w
    · rename_i r' e
      exact d.rt _ w _ _ (S1.retn e)
    · exact w.elim, d.ex⟩
def wRetN : WS := fun P _ => P.rt (.fz .non)
theorem qs_retN : QS X C (.Return none pos) wRetN := PS.imp ps_retN fun D σ H ⟨G, ρ, ts, P, ft, S, w, d⟩ => d.rt _ w _ _ ⟨S.fr, S.sk, by unfold Rep; rfl⟩
def wExpr (we : WE) : WS := fun P ρ => we ρ (fun _ ρ1 => P.nx ρ1) P.ex
theorem qs_expr {we : WE} (he : QE X C e we) (hs : swapsWith e none pos.line X.env = pure false := by rfl) : QS X C (.Expr e pos) (wExpr we) :=
  PS.imp (ps_expr he hs) fun D σ H ⟨G, ρ, ts, P, ft, S, w, d⟩ => ⟨G, ρ, ts, _, P.ex, S, w, fun r ρ1 w v H1 S1 => d.nx _ w _ _ S1.pop, d.ex⟩
def wIfS (t : WT) (w u : WS) : WS := fun P ρ => t ρ (fun b ρ1 => if b = true then w P ρ1 else u P ρ1) P.ex
theorem qs_if {t : WT} {sa' sb : List Stmt} (hc : QT X C c t) (ha : QSs X C sa' ws) (hb : QSs X C sb us) : QS X C (.If c sa' sb pos) (wIfS t ws us) :=
  PS.imp (ps_if hc ha hb) fun D σ H ⟨G, ρ, ts, P, ft, S, w, d⟩ => ⟨G, ρ, ts, _, P.ex, S, w, fun k ρ1 w H1 S1 => by
    cases k with
    | true => rw [if_pos rfl] at w ⊢; exact ⟨G, ρ1, ts, P, ft, S1, w, d⟩
    | false => rw [if_neg (by decide)] at w ⊢; exact ⟨G, ρ1, ts, P, ft, S1, w, d⟩, d.ex⟩
theorem qs_pass : QS X C (.Pass pos) wNext := PS.imp ps_pass fun D σ H ⟨G, ρ, ts, P, ft, S, w, d⟩ => d.nx _ w _ _ S
def wBreak : WS := fun P ρ => P.bk ρ
def wCont : WS := fun P ρ => P.ct ρ
theorem qs_break : QS X C (.Break pos) wBreak := PS.imp ps_break fun D σ H ⟨G, ρ, ts, P, ft, S, w, d⟩ => d.bk _ w _ _ S
theorem qs_continue : QS X C (.Continue pos) wCont := PS.imp ps_continue fun D σ H ⟨G, ρ, ts, P, ft, S, w, d⟩ => d.ct _ w _ _ S
/-! ### what is walked -/
structure ItOk (K : PySem.W.Frag) (J : It) (us : Ts) (items : List PV) : Prop where
  fz : FzT us
  go : ∀ i G ρ ts σ H, i < items.length → Sta K G ρ (us ++ ts) σ H → J.go i H
  stop : ∀ G ρ ts σ H, Sta K G ρ (us ++ ts) σ H → J.stop items.length H
  yld : ∀ i G ρ ts σ H x H', i < items.length → Sta K G ρ (us ++ ts) σ H → J.yld i H x H' → ∃ p, items[i]? = some p ∧ Sta K G ρ ((.fz p, x) :: (us ++ ts)) σ H'
abbrev WI := En → (List PV → En → Prop) → (PX → Prop) → Prop
def tPI (C : CC) (w : WI) : TI := fun σ H R => ∃ G ρ ts Q' E', Sta C.K G ρ ts σ H ∧ w ρ Q' E' ∧ (∀ items ρ', Q' items ρ' → ∀ J us H', Sta C.K G ρ' (us ++ ts) σ H' → ItOk C.K J us items → R J H') ∧ EEx C G E'
def QI (X : Cx) (C : CC) (tg e : Expr) (w : WI) : Prop := PI X tg e (tPI C w)
theorem PI.imp {tg e : Expr} {t t' : TI} (h : PI X tg e t) (i : ∀ σ H R, t' σ H R → t σ H R) : PI X tg e t' := ⟨fun pins s σ H R I q => h.run pins s σ H R I (i σ H R q)⟩
theorem FzT.one {p : PV} {v : V} : FzT [(.fz p, v)] := fun e he => by
  rw [List.mem_singleton.mp he]
  exact ⟨_, rfl⟩
theorem FzT.nil : FzT [] := fun e he => nomatch he
theorem it_list {a : Addr} {l : List PV} : ItOk K (Itl K a) [(.fz (.lst l), .ref a)] l where
  fz := FzT.one
  go := fun i G ρ ts σ H hi S => by
    obtain ⟨b, vs, e, h1, h2⟩ := S.top (r := .fz (.lst l)) List.mem_cons_self rfl
    cases e
    have hl := h2.length
    exact walk_list.goes i H (by omega) (SqL.of h1)
  stop := fun G ρ ts σ H S => by
    obtain ⟨b, vs, e, h1, h2⟩ := S.top (r := .fz (.lst l)) List.mem_cons_self rfl
    cases e
    rw [← h2.length]
    exact walk_list.stops H (SqL.of h1)
  yld := fun i G ρ ts σ H x H' hi S y => by
    obtain ⟨b, vs, e, h1, h2⟩ := S.top (r := .fz (.lst l)) List.mem_cons_self rfl
    cases e
    have hl := h2.length
    obtain ⟨rfl, e⟩ := walk_list.yields i H x H' (by omega) (SqL.of h1) y
    obtain ⟨p, e1, e2⟩ := h2.get' e
    exact ⟨p, e1, S.push e2⟩
theorem it_tup {a : Addr} {l : List PV} : ItOk K (Itt K a) [(.fz (.tup l), .ref a)] l where
  fz := FzT.one
  go := fun i G ρ ts σ H hi S => by
    obtain ⟨b, vs, e, h1, h2⟩ := S.top (r := .fz (.tup l)) List.mem_cons_self rfl
    cases e
    have hl := h2.length
    exact walk_tup.goes i H (by omega) h1
  stop := fun G ρ ts σ H S => by
    obtain ⟨b, vs, e, h1, h2⟩ := S.top (r := .fz (.tup l)) List.mem_cons_self rfl
    cases e
    rw [← h2.length]
    exact walk_tup.stops H h1
  yld := fun i G ρ ts σ H x H' hi S y => by
    obtain ⟨b, vs, e, h1, h2⟩ := S.top (r := .fz (.tup l)) List.mem_cons_self rfl
    cases e
    have hl := h2.length
    obtain ⟨rfl, e⟩ := walk_tup.yields i H x H' (by omega) h1 y
    obtain ⟨p, e1, e2⟩ := h2.get' e
    exact ⟨p, e1, S.push e2⟩
/-- the signs of a text -/
def signs (z : Str) : List PV := z.cps.toList.map fun c => .str ⟨#[c]⟩
theorem it_str {z : Str} : ItOk K (Its z) [] (signs z) where
  fz := FzT.nil
  go := fun i G ρ ts σ H hi S => walk_str.goes i H (by simpa [signs] using hi) trivial
  stop := fun G ρ ts σ H S => by
    have : (signs z).length = z.cps.size := by simp [signs]
    rw [this]
    exact walk_str.stops H trivial
  yld := fun i G ρ ts σ H x H' hi S y => by
    obtain ⟨rfl, c, e, rfl⟩ := walk_str.yields i H x H' (by simpa [signs] using hi) trivial y
    refine ⟨.str ⟨#[c]⟩, ?_, S.pushSc rfl⟩
    unfold signs
    rw [List.getElem?_map, Array.getElem?_toList, e]
    rfl
/-- a row or a text that is walked: it is let go -/
def rowOf : PV → Option (List PV)
  | .tup l => some l
  | .lst l => some l
  | .str z => some (signs z)
  | _ => none
def wiRow (we : WE) : WI := fun ρ Q E => we ρ (fun r ρ1 => match fz1 ρ1 r with
  | some (p, ρ2) => match rowOf p with
    | some l => Q l ρ2
    | none => False
  | none => False) E
/-- a list, a tuple or a text is walked, whichever comes -/
def iRow (K : PySem.W.Frag) (te : TE) : TI := fun σ H R => te σ H fun x H1 => (∃ a xs, x = .ref a ∧ SqL K H1 a xs ∧ R (Itl K a) H1) ∨ (∃ a xs, x = .ref a ∧ SqT K H1 a xs ∧ R (Itt K a) H1) ∨ ∃ z, x = .str z ∧ R (Its z) H1
theorem pi_row {tg : Expr} {te : TE} (he : PE X e te) : PI X tg e (iRow X.K te) := by
  constructor
  intro pins s σ H R I h
  refine thn (he.run pins s σ H _ I h) fun v s1 hv => ?_
  obtain ⟨x, H1, I1, r1, q⟩ := hv
  rcases q with ⟨a, xs, rfl, hs, q⟩ | ⟨a, xs, rfl, hs, q⟩ | ⟨z, rfl, q⟩
  · cases r1
    obtain ⟨its, _, p, _⟩ := I1.list hs
    exact wpAny_pyIter_list p.isList (pi_one (tk := s1.toks) I1 _ (turn_list a _) ⟨_, Heap.get?_push_size _ rfl, rfl, rfl⟩ q)
  · cases r1
    obtain ⟨its, _, p, _⟩ := I1.tuple hs
    exact wpAny_pyIter_tuple (items := its.toArray) p (pi_one (tk := s1.toks) I1 _ (turn_tuple a _) ⟨_, Heap.get?_push_size _ rfl, rfl, rfl⟩ q)
  · obtain ⟨t, rfl⟩ := r1
    by_cases ha : z.cps.all (· < 128) = true
    · exact wpAny_pyIter_ascii ha (pi_one (tk := s1.toks) I1 _ (turn_str _ z t "str_ascii_iterator" (.inl rfl)) ⟨_, Heap.get?_push_size _ rfl, rfl, rfl⟩ q)
    · exact wpAny_pyIter_wide (by simpa using ha) (pi_one (tk := s1.toks) I1 _ (turn_str _ z t "str_iterator" (.inr rfl)) ⟨_, Heap.get?_push_size _ rfl, rfl, rfl⟩ q)
theorem qi_row {tg : Expr} {we : WE} (hk : X.K = C.K) (he : QE X C e we) : QI X C tg e (wiRow we) :=
  PI.imp (pi_row he) fun σ H R ⟨G, ρ, ts, Q', E', S, w, q, ee⟩ => ⟨G, ρ, ts, _, E', S, w, fun r ρ1 w v H1 S1 => by
    rw [hk]
    split at w
    · rename_i p ρ2 ef
      have S2 := S1.fz1 ef
      split at w
      · rename_i l el
        have t := S2.top List.mem_cons_self rfl
        cases p with
        | tup l' =>
          cases el
          obtain ⟨a, vs, rfl, h1, h2⟩ := t
          exact .inr (.inl ⟨a, vs, rfl, h1, q _ _ w _ [(.fz (.tup l), .ref a)] _ S2 it_tup⟩)
        | lst l' =>
          cases el
          obtain ⟨a, vs, rfl, h1, h2⟩ := t
          exact .inl ⟨a, vs, rfl, SqL.of h1, q _ _ w _ [(.fz (.lst l), .ref a)] _ S2 it_list⟩
        | str z =>
          cases el
          exact .inr (.inr ⟨z, t.str, q _ _ w _ [] _ S2.pop it_str⟩)
        | _ => cases el
      · exact w.elim
    · exact w.elim, ee⟩
/-- ranges -/
def rgI (lo : Int) (n : Nat) : List PV := (List.range n).map fun i => .int (lo + (i : Nat))
theorem rgI_get {lo : Int} {n i : Nat} (h : i < n) : (rgI lo n)[i]? = some (.int (lo + (i : Nat))) := by
  unfold rgI
  rw [List.getElem?_map, List.getElem?_range h]
  rfl
theorem rgI_length {lo : Int} {n : Nat} : (rgI lo n).length = n := by unfold rgI; rw [List.length_map, List.length_range]
theorem it_range {lo : Int} {n : Nat} : ItOk K (Itr lo n) [] (rgI lo n) where
  fz := FzT.nil
  go := fun i G ρ ts σ H hi S => walk_range.goes i H (by rwa [rgI_length] at hi) trivial
  stop := fun G ρ ts σ H S => by rw [rgI_length]; exact walk_range.stops H trivial
  yld := fun i G ρ ts σ H x H' hi S y => by
    rw [rgI_length] at hi
    obtain ⟨rfl, rfl⟩ := walk_range.yields i H x H' hi trivial y
    exact ⟨_, rgI_get hi, S.pushSc rfl⟩
def rOk (i : Int) : Prop := -(2 ^ 62) ≤ i ∧ i < 2 ^ 62
def wiRange1 (wr : WA) : WI := fun ρ Q E => wr ρ (fun rs ρ1 => ∃ ra j, rs = [ra] ∧ look ρ1 ra = some (.int j) ∧ rOk j ∧ Q (rgI 0 j.toNat) ρ1) E
def wiRange2 (wr : WA) : WI := fun ρ Q E => wr ρ (fun rs ρ1 => ∃ ra rb i j, rs = [ra, rb] ∧ look ρ1 ra = some (.int i) ∧ look ρ1 rb = some (.int j) ∧ rOk i ∧ rOk j ∧ Q (rgI i (j - i).toNat) ρ1) E
theorem qi_range1 {tg : Expr} {p : Pos} (hg : Gl X "range") (hm : X.mg "range" = none) (ha : QA X C [a] wr) (hs : starEach [a] X.env = [(false, eval a X.env)] := by rfl) : QI X C tg (.Call (.Name "range" p) [a] [] pos) (wiRange1 wr) :=
  PI.imp (pi_range1 hg hm ha hs) fun σ H R ⟨G, ρ, ts, Q', E', S, w, q, ee⟩ => ⟨G, ρ, ts, _, E', S, w, fun rs ρ1 ⟨ra, j, er, e, hj, w⟩ vs H1 hl S1 => by
    subst er
    match vs, hl with
    | [x], _ => exact ⟨j, by rw [(S1.top (r := ra) List.mem_cons_self e).int], hj.1, hj.2, q _ _ w _ [] _ S1.pop it_range⟩, ee⟩
theorem qi_range2 {tg : Expr} {p : Pos} (hg : Gl X "range") (hm : X.mg "range" = none) (ha : QA X C [a, b] wr) (hs : starEach [a, b] X.env = [(false, eval a X.env), (false, eval b X.env)] := by rfl) (hs2 : starEach [b] X.env = [(false, eval b X.env)] := by rfl) : QI X C tg (.Call (.Name "range" p) [a, b] [] pos) (wiRange2 wr) :=
  PI.imp (pi_range2 hg hm ha hs hs2) fun σ H R ⟨G, ρ, ts, Q', E', S, w, q, ee⟩ => ⟨G, ρ, ts, _, E', S, w, fun rs ρ1 ⟨ra, rb, i, j, er, e1, e2, hi, hj, w⟩ vs H1 hl S1 => by
    subst er
    match vs, hl with
    | [x, y], _ => exact ⟨i, j, by rw [(S1.top (r := ra) List.mem_cons_self e1).int, (S1.top (r := rb) (v := y) mem1 e2).int], ⟨hi.1, hi.2, hj.1, hj.2⟩, q _ _ w _ [] _ S1.pop.pop it_range⟩, ee⟩
/-! ### for -/
def wLoop (wt : WTg) (wb : WS) (P : PD) : List PV → En → Prop
  | [], ρ => P.nx ρ
  | x :: xs, ρ => wt x ρ fun ρ' => wb { nx := wLoop wt wb P xs, rt := P.rt, bk := P.nx, ct := wLoop wt wb P xs, ex := P.ex } ρ'
def wFor (wi : WI) (wt : WTg) (wb : WS) : WS := fun P ρ => wi ρ (fun items ρ1 => wLoop wt wb P items ρ1) P.ex
theorem FzT.append {us : Ts} (h : FzT us) (h' : FzT ts) : FzT (us ++ ts) := fun e he => (List.mem_append.mp he).elim (h e) (h' e)
theorem qs_for {tg iter : Expr} {body : List Stmt} {is : List Nat} {wi : WI} {wt : WTg} (hp : PassesOwn (model X.prog X.w) X.A X.env X.xe) (hc : X.calm = true) (hi : QI X C tg iter wi) (hg : QG X C tg is wt) (hb : QSs X C body ws) (hs : ∀ x, foldedSetIterable iter X.env x = pure x := by intro _; rfl) :
    QS X C (.For tg iter body [] pos) (wFor wi wt ws) :=
  PS.imp (ps_for hp hc hi hg hb hs) fun D σ H ⟨G, ρ, ts, P, ft, S, w, d⟩ => ⟨G, ρ, ts, _, P.ex, S, w, fun items ρ1 w J us H1 S1 ok => by
    refine ⟨fun i m σ H => m = items.length - i ∧ i ≤ items.length ∧ ∃ ρ, Sta C.K G ρ (us ++ ts) σ H ∧ wLoop wt ws P (items.drop i) ρ, ⟨_, rfl, Nat.zero_le _, ρ1, S1, w⟩, ?_⟩
    rintro i m σ H ⟨rfl, hi, ρ, S, w⟩
    by_cases hlt : i < items.length
    · refine .inr ⟨ok.go i G ρ ts σ H hlt S, fun σ' H' => ∃ ρ', Sta C.K G ρ' (us ++ ts) σ' H' ∧ wLoop wt ws P (items.drop (i + 1)) ρ', fun σ' H' ⟨ρ', S', w'⟩ => ⟨items.length - (i + 1), by omega, rfl, hlt, ρ', S', w'⟩, fun x H' y => ?_⟩
      obtain ⟨p, ep, S2⟩ := ok.yld i G ρ ts σ H x H' hlt S y
      have ed : items.drop i = p :: items.drop (i + 1) := by
        rw [List.drop_eq_getElem_cons hlt]
        rw [List.getElem?_eq_getElem hlt] at ep
        cases ep
        rfl
      rw [ed] at w
      refine ⟨G, ρ, us ++ ts, p, _, (ok.fz.append ft).noBr, S2, w, fun ρ' w σ' H' S3 _ _ => ⟨G, ρ', us ++ ts, _, ok.fz.append ft, S3, w, ?_, ?_, ?_, ?_, d.ex⟩⟩
      · exact fun ρ w σ H S => ⟨ρ, S, w⟩
      · exact d.rt
      · exact fun ρ w σ H S => d.nx ρ w σ H S.dropN
      · exact fun ρ w σ H S => ⟨ρ, S, w⟩
    · have e : i = items.length := by omega
      subst e
      rw [List.drop_length] at w
      exact .inl ⟨ok.stop G ρ ts σ H S, d.nx ρ w σ H S.dropN⟩, d.ex⟩
/-- while: the test, the body, again; n turns at most -/
def wWhileN (t : WT) (wb : WS) (P : PD) : Nat → En → Prop
  | 0, _ => False
  | n + 1, ρ => t ρ (fun k ρ1 => if k = true then wb { nx := wWhileN t wb P n, rt := P.rt, bk := P.nx, ct := wWhileN t wb P n, ex := P.ex } ρ1 else P.nx ρ1) P.ex
def wWhile (t : WT) (wb : WS) : WS := fun P ρ => ∃ n, wWhileN t wb P n ρ
theorem qs_while {t : WT} {body : List Stmt} (hp : PassesOwn (model X.prog X.w) X.A X.env X.xe) (hc : QT X C c t) (hb : QSs X C body ws) : QS X C (.While c body [] pos) (wWhile t ws) :=
  PS.imp (ps_while hp hc hb) fun D σ H ⟨G, ρ, ts, P, ft, S, ⟨n, w⟩, d⟩ => by
    refine ⟨fun m σ H => ∃ ρ, Sta C.K G ρ ts σ H ∧ wWhileN t ws P m ρ, ⟨n, ρ, S, w⟩, ?_⟩
    rintro m σ H ⟨ρ, S, w⟩
    cases m with
    | zero => exact w.elim
    | succ m =>
      refine ⟨G, ρ, ts, _, P.ex, S, w, fun k ρ1 w H1 S1 => ?_, d.ex⟩
      cases k with
      | true =>
        rw [if_pos rfl] at w ⊢
        refine ⟨fun σ' H' => ∃ ρ', Sta C.K G ρ' ts σ' H' ∧ wWhileN t ws P m ρ', fun σ' H' h => ⟨m, by omega, h⟩, G, ρ1, ts, _, ft, S1, w, ?_, ?_, ?_, ?_, d.ex⟩
        · exact fun ρ w σ H S => ⟨ρ, S, w⟩
        · exact d.rt
        · exact fun ρ w σ H S => d.nx ρ w σ H S
        · exact fun ρ w σ H S => ⟨ρ, S, w⟩
      | false =>
        rw [if_neg (by decide)] at w ⊢
        exact d.nx ρ1 w σ H1 S1
end SyP
set_option autoImplicit false
/-! Pure words 7: comprehensions. -/
namespace SyP
open PySem PySem.Spec PyProof.Rows L2 Sy
variable {K : PySem.W.Frag} {sa : SA} {H H' Hm : Hp} {G : Gh} {ρ ρ' : En} {ts ts' : Ts} {σ σ' : L2.St} {C : CC} {X : Cx} {a b c : Expr} {pos p2 : Pos} {wa wb wc w : WE} {e : Expr} {es : List Expr} {wr : WA}
/-- a held temporary is changed -/
theorem Sta.mutT {p p' : PV} {a : Addr} {o : HO} (S : Sta K G ρ ((.ow p, .ref a) :: ts) σ H) (hx : Obj1 K G.sa (msk (OA G ρ ((.ow p, .ref a) :: ts) σ) H) (upd H a o) a p') : Sta K G ρ ((.ow p', .ref a) :: ts) σ (upd H a o) := by
  have oa : Owns ρ ((.ow p, .ref a) :: ts) σ a := .inr ⟨_, List.mem_cons_self, .ow⟩
  have h0a : G.H0 a = none := S.new a oa
  have sk : saOk G.sa (upd H a o) := fun l s e => by
    obtain ⟨ne, ns, x, k, h1, h2, h3, h4⟩ := S.sk l s e
    have n1 : s ≠ a := fun z => S.od a (z ▸ S.so l s e) h0a
    have n2 : l ≠ a := fun z => S.lo l s e (z ▸ h0a)
    exact ⟨ne, ns, x, k, by rw [upd_ne n2]; exact h1, h2, by rw [upd_ne n1]; exact h3, h4⟩
  have eq : ∀ b, Owns ρ ((.ow p', .ref a) :: ts) σ b → Owns ρ ((.ow p, .ref a) :: ts) σ b := fun b z => by
    rcases z with z | ⟨e, he, z⟩
    · exact .inl z
    · rcases List.mem_cons.mp he with rfl | he
      · obtain ⟨_, e⟩ := z
        cases e
        exact oa
      · exact .inr ⟨e, List.mem_cons_of_mem _ he, z⟩
  have hd := List.pairwise_cons.mp S.dT
  refine S.gen S.len (fun b u _ n e => ?_) sk (fun b z nb => absurd (eq b z) nb) (fun b u nb e z => nb (.inl (eq b z))) (fun sm i r e => ?_) (fun sm e he => ?_) S.dS (fun j e f b hs hf x y => ?_) (List.pairwise_cons.mpr ⟨fun f hf b x y => ?_, hd.2⟩) (fun e he j ej => ?_)
  · rw [upd_ne (show b ≠ a from fun z => n (z ▸ oa))]
    exact e
  · obtain ⟨v, e1, e2⟩ := S.slot i r e
    refine ⟨v, e1, ?_⟩
    cases r with
    | fz p => exact Rep.same sm e2
    | ow q =>
      obtain ⟨b, rfl, ob⟩ := e2
      have nb : b ≠ a := fun w => S.dX i (.ow q, .ref b) _ a ⟨e, e1⟩ List.mem_cons_self (w ▸ .ow) .ow
      exact ⟨b, rfl, ob.same sm fun o e => by rw [upd_ne nb]; exact e⟩
    | br j => exact e2
  · rcases List.mem_cons.mp he with rfl | he
    · exact ⟨a, rfl, hx.same sm fun o e => e⟩
    · have t := S.tmp e (List.mem_cons_of_mem _ he)
      have hne := hd.1 e he
      obtain ⟨r, v⟩ := e
      cases r with
      | fz p => exact Rep.same sm t
      | ow q =>
        obtain ⟨b, e, ob⟩ := t
        obtain rfl : v = .ref b := e
        have nb : b ≠ a := fun w => hne a .ow (w ▸ .ow)
        exact ⟨b, rfl, ob.same sm fun o e => by rw [upd_ne nb]; exact e⟩
      | br j => exact t
  · rcases List.mem_cons.mp hf with rfl | hf
    · obtain ⟨_, e2⟩ := y
      cases e2
      exact S.dX j e _ a hs List.mem_cons_self x .ow
    · exact S.dX j e f b hs (List.mem_cons_of_mem _ hf) x y
  · obtain ⟨_, e2⟩ := x
    cases e2
    exact hd.1 f hf a .ow y
  · rcases List.mem_cons.mp he with rfl | he
    · cases ej
    · exact S.brn e (List.mem_cons_of_mem _ he) j ej
theorem wipe_get {σ : L2.St} {j : Nat} : ∀ {vs : List Nat}, j ∈ vs → j < σ.length → (wipe σ vs)[j]? = some none
  | v :: vs, h, hl => by
    unfold wipe
    by_cases z : v = j
    · subst z
      rw [List.getElem?_set_self (by rw [wipe_length]; exact hl)]
    · rw [List.getElem?_set_ne z]
      rcases List.mem_cons.mp h with h | h
      · exact absurd h.symm z
      · exact wipe_get h hl
theorem wipe_eq {σ σ' : L2.St} {vs : List Nat} (hl : σ'.length = σ.length) (h : ∀ j, j ∉ vs → σ'[j]? = σ[j]?) : wipe σ' vs = wipe σ vs := by
  refine List.ext_getElem? fun j => ?_
  by_cases z : j ∈ vs
  · by_cases l : j < σ.length
    · rw [wipe_get z l, wipe_get z (by omega)]
    · rw [List.getElem?_eq_none (by rw [wipe_length]; omega), List.getElem?_eq_none (by rw [wipe_length]; omega)]
  · rw [wipe_out z, wipe_out z, h j z]
def wipeE (ρ : En) : List Nat → En
  | [] => ρ
  | v :: vs => (wipeE ρ vs).set v none
theorem wipeE_out {i : Nat} : ∀ {vs : List Nat}, i ∉ vs → (wipeE ρ vs)[i]? = ρ[i]?
  | [], _ => rfl
  | v :: vs, h => by
    unfold wipeE
    rw [List.getElem?_set_ne (fun z => h (by simp [z])), wipeE_out fun z => h (List.mem_cons_of_mem _ z)]
theorem wipeE_in {i : Nat} {r : AV} : ∀ {vs : List Nat}, (wipeE ρ vs)[i]? = some (some r) → i ∉ vs
  | [], _ => by simp
  | v :: vs, h => by
    unfold wipeE at h
    by_cases z : v = i
    · subst z
      by_cases hl : v < (wipeE ρ vs).length
      · rw [List.getElem?_set_self hl] at h
        cases h
      · rw [List.getElem?_eq_none (by rw [List.length_set]; omega)] at h
        cases h
    · rw [List.getElem?_set_ne z] at h
      have := wipeE_in h
      simp only [List.mem_cons, not_or]
      exact ⟨fun e => z e.symm, this⟩
/-! ### comprehensions -/
def CC.nox (C : CC) : CC := { C with E0 := fun _ _ _ => False }
theorem eex_nox : EEx C.nox G (fun _ => False) := fun _ h => h.elim
/-- one item's turn: what it adds -/
def wTurn (vs : List Nat) (ρ1 : En) (wt : WTg) (tt : WT) (we : WE) (x : PV) (Kk : List PV → Prop) : Prop := wt x ρ1 fun ρ2 => wipeE ρ2 vs = ρ1 ∧ tt ρ2 (fun b ρ3 => ρ3 = ρ2 ∧ if b = true then we ρ2 (fun r ρ4 => match fz1 ρ4 r with
  | some (p, ρ5) => ρ5 = ρ2 ∧ Kk [p]
  | none => False) (fun _ => False) else Kk []) (fun _ => False)
def wColl (turn : PV → (List PV → Prop) → Prop) : List PV → List PV → (List PV → Prop) → Prop
  | [], acc, Q => Q acc
  | x :: xs, acc, Q => turn x fun ys => wColl turn xs (acc ++ ys) Q
def wLc (wi : WI) (vs : List Nat) (wt : WTg) (tt : WT) (we : WE) : WE := fun ρ Q E => wi ρ (fun items ρ1 => (∀ i ∈ vs, ρ1[i]? = some none) ∧ items.length ≤ sizeLine ∧ wColl (wTurn vs ρ1 wt tt we) items [] fun l => Q (.ow (.lst l)) ρ1) E
def wTrue : WT := fun ρ Q _ => Q true ρ
theorem drop_one {items : List PV} {i : Nat} {p : PV} (ep : items[i]? = some p) : items.drop i = p :: items.drop (i + 1) := by
  obtain ⟨hlt, e⟩ := List.getElem?_eq_some_iff.mp ep
  rw [List.drop_eq_getElem_cons hlt, e]
/-- the block of a comprehension begins: the slots of its own names are forgotten -/
theorem Sta.inBlk {vs : List Nat} (S : Sta K G ρ ts σ H) (hv : ∀ i ∈ vs, ρ[i]? = some none) : Sta K G ρ ts (wipe σ vs) H := by
  have out : ∀ {i : Nat} {r : AV}, ρ[i]? = some (some r) → i ∉ vs := fun {i r} h hm => by
    rw [hv i hm] at h
    cases h
  exact S.less (by rw [wipe_length]; exact S.len) (fun i r h => ⟨h, wipe_out (out h)⟩) fun e he i ei => by
    obtain ⟨r, hr⟩ := S.brn e he i ei
    exact ⟨⟨r, hr⟩, wipe_out (out hr)⟩
/-- .. and ends -/
theorem Sta.outBlk {vs : List Nat} {ρ2 : En} {σ2 : L2.St} (S : Sta K G ρ2 ts σ2 H) (h0 : wipeE ρ2 vs = ρ) (hl : ρ.length = σ.length) (h : ∀ j, j ∉ vs → σ2[j]? = σ[j]?) (nb : ∀ e ∈ ts, ∀ i, e.1 = .br i → ∃ r, ρ[i]? = some (some r)) : Sta K G ρ ts σ H := by
  subst h0
  refine S.less hl (fun i r e => ?_) fun e he i ei => ?_
  · have hn := wipeE_in e
    rw [wipeE_out hn] at e
    exact ⟨e, (h i hn).symm⟩
  · obtain ⟨r, hr⟩ := nb e he i ei
    exact ⟨⟨r, hr⟩, (h i (wipeE_in hr)).symm⟩
abbrev Blk (X : Cx) (scope : Scope) (f : Cx → Prop) : Prop := ∀ (s : Shared) (H : Hp) (A : Addr) (cl : List (Str × Addr)) (fp : List Addr), f (X.blk s H scope (compEnvC scope cl A X.env) fp)
/-- an item is appended to the list of a comprehension -/
theorem Sta.addD {pre : Ts} {acc : List PV} {D : Addr} {r : AV} {v : V} {p : PV} (S : Sta K G ρ ((r, v) :: (pre ++ (.ow (.lst acc), .ref D) :: ts)) σ H) (ef : SyP.fz1 ρ r = some (p, ρ')) :
    ∃ vs, H D = some (.lst vs) ∧ vs.length = acc.length ∧ Sta K G ρ' (pre ++ (.ow (.lst (acc ++ [p])), .ref D) :: ts) σ (upd H D (.lst (vs ++ [v]))) := by
  have S7 := S.fz1 ef
  have S8 : Sta K G ρ' ((.ow (.lst acc), .ref D) :: (.fz p, v) :: (pre ++ ts)) σ H := S7.perm ((List.Perm.cons _ List.perm_middle).trans (List.Perm.swap _ _ _))
  obtain ⟨D', eD, vs', hD, hr⟩ := S8.tmp _ List.mem_cons_self
  cases eD
  have hp := S8.tmp (.fz p, v) mem1
  have S9 := S8.mutT (o := .lst (vs' ++ [v])) (p' := .lst (acc ++ [p])) ⟨_, upd_same, Reps.append hr (Reps.cons hp Reps.nil)⟩
  exact ⟨vs', hD, hr.length, ((S9.perm (List.Perm.swap _ _ _)).pop).perm List.perm_middle.symm⟩
theorem tLc_of {wi : WI} {is vs : List Nat} {wt : WTg} {tt : WT} {we : WE} (hsub : ∀ i ∈ is, i ∈ vs) {Q : VK} (h : tP C (wLc wi vs wt tt we) σ H Q) : tLc (tPI C wi) (tPG C.nox is wt) (tPT C.nox tt) (tP C.nox we) vs σ H Q := by
  obtain ⟨G, ρ, ts, Q', E', S, w, q, ee⟩ := h
  refine ⟨G, ρ, ts, _, E', S, w, fun items ρ1 ⟨hv, hz, w⟩ J us H1 S1 ok D nD => ?_, ee⟩
  have SD : Sta C.K G ρ1 ((.ow (.lst []), .ref D) :: (us ++ ts)) σ (upd H1 D (.lst [])) := S1.newLst nD Reps.nil
  have SD : Sta C.K G ρ1 (us ++ (.ow (.lst []), .ref D) :: ts) σ (upd H1 D (.lst [])) := SD.perm List.perm_middle.symm
  refine ⟨fun i m H => m = items.length - i ∧ i ≤ items.length ∧ ∃ acc, acc.length ≤ i ∧ Sta C.K G ρ1 (us ++ (.ow (.lst acc), .ref D) :: ts) σ H ∧ wColl (wTurn vs ρ1 wt tt we) (items.drop i) acc fun l => Q' (.ow (.lst l)) ρ1, ⟨_, rfl, Nat.zero_le _, [], Nat.le_refl _, SD, w⟩, ?_⟩
  rintro i m H ⟨rfl, hi, acc, ha, S, w⟩
  by_cases hlt : i < items.length
  · refine .inr ⟨ok.go i G ρ1 _ σ H hlt S, fun H' => ∃ acc, acc.length ≤ i + 1 ∧ Sta C.K G ρ1 (us ++ (.ow (.lst acc), .ref D) :: ts) σ H' ∧ wColl (wTurn vs ρ1 wt tt we) (items.drop (i + 1)) acc fun l => Q' (.ow (.lst l)) ρ1, fun H' h => ⟨items.length - (i + 1), by omega, rfl, hlt, h⟩, fun x H' y => ?_⟩
    obtain ⟨p, ep, S2⟩ := ok.yld i G ρ1 _ σ H x H' hlt S y
    rw [drop_one ep] at w
    have S3 := S2.inBlk hv
    have nbr : ∀ e ∈ us ++ (AV.ow (.lst acc), V.ref D) :: ts, ∀ i, e.1 = .br i → ∃ r, ρ1[i]? = some (some r) := S.brn
    refine ⟨G, ρ1, _, p, _, fun e he j hj ej => ?_, S3, w, fun ρ2 ⟨hw, w⟩ σ2 H2 S4 hl hk => ?_⟩
    · obtain ⟨r, hr⟩ := nbr e he j ej
      rw [hv j (hsub j hj)] at hr
      cases hr
    · have hk2 : ∀ j, j ∉ vs → σ2[j]? = σ[j]? := fun j hj => by
        rw [hk j (fun z => hj (hsub j z)), wipe_out hj]
      refine ⟨wipe_eq (by rw [hl, wipe_length]) hk2, G, ρ2, _, _, fun _ => False, S4, w, fun b ρ3 ⟨e3, w⟩ H3 S5 => ?_, eex_nox⟩
      subst e3
      cases b with
      | true =>
        rw [if_pos rfl] at w ⊢
        refine ⟨G, ρ3, _, _, fun _ => False, S5, w, fun r ρ4 w v H4 S6 => ?_, eex_nox⟩
        split at w
        · rename_i p' ρ5 ef
          obtain ⟨e5, w5⟩ := w
          subst e5
          obtain ⟨vs', hD, hl', S10⟩ := S6.addD ef
          refine ⟨vs', hD, by omega, acc ++ [p'], by simp; omega, ?_, w5⟩
          refine S10.outBlk hw S1.len hk2 fun e he i ei => ?_
          rcases List.mem_append.mp he with he | he
          · exact nbr e (List.mem_append_left _ he) i ei
          · rcases List.mem_cons.mp he with rfl | he
            · cases ei
            · exact nbr e (List.mem_append_right _ (List.mem_cons_of_mem _ he)) i ei
        · exact w.elim
      | false =>
        rw [if_neg (by decide)] at w ⊢
        rw [List.append_nil] at w
        exact ⟨acc, by omega, S5.outBlk hw S1.len hk2 nbr, w⟩
  · have e : i = items.length := by omega
    subst e
    rw [List.drop_length] at w
    exact .inl ⟨ok.stop G ρ1 _ σ H S, q _ _ w _ _ S.dropN⟩
theorem qe_lc {elt tg iter : Expr} {ifs : List Expr} {scope : Scope} {own : List (Str × Nat)} {wi : WI} {is vs : List Nat} {wt : WTg} {tt : WT} {we : WE} (hc : X.calm = true) (hN : X.N.Nodup) (hi : QI X C tg iter wi) (ok : BlkOk X.N X.env.scope scope own) (hvs : own.map (·.2) = vs) (hsub : ∀ i ∈ is, i ∈ vs)
    (hg : Blk X scope fun X' => QG X' C.nox tg is wt) (ht : Blk X scope fun X' => PTs X' ifs (tPT C.nox tt)) (he : Blk X scope fun X' => QE X' C.nox elt we) (hs : ∀ x, foldedSetIterable iter X.env x = pure x := by intro _; rfl) :
    QE X C (.ListComp elt [⟨tg, iter, ifs, 0⟩] scope pos) (wLc wi vs wt tt we) := by
  subst hvs
  exact PE.imp (pe_lc hc hN hi ok hg ht he hs) fun _ _ _ h => tLc_of hsub h
theorem qts_nil : PTs X [] (tPT C wTrue) := ⟨fun pins s σ H Q I ⟨G, ρ, ts, Q', E', S, w, q, ee⟩ => pts_nil.run pins s σ H Q I (q _ _ w _ S)⟩
theorem qts_one {t : WT} (h : QT X C c t) : PTs X [c] (tPT C t) := pts_one h
/-- name = [..] on one line -/
theorem qs_setLc {i : Nat} {y : Str} {py : Pos} {elt tg iter : Expr} {ifs : List Expr} {scope : Scope} {own : List (Str × Nat)} {spos : Pos} {wi : WI} {is vs : List Nat} {wt : WTg} {tt : WT} {we : WE} (hc : X.calm = true) (hN : X.N.Nodup) (hy : X.N[i]? = some y) (hyl : X.env.scope.names.lookup y = some .local)
    (hsw : swapsWith (.ListComp elt [⟨tg, iter, ifs, 0⟩] scope pos) (some (.Name y py)) spos.line X.env = pure true) (hi : QI X C tg iter wi) (ok : BlkOk X.N X.env.scope scope own) (hvs : own.map (·.2) = vs) (hsub : ∀ i ∈ is, i ∈ vs)
    (hg : Blk X scope fun X' => QG X' C.nox tg is wt) (ht : Blk X scope fun X' => PTs X' ifs (tPT C.nox tt)) (he : Blk X scope fun X' => QE X' C.nox elt we) (hs : ∀ x, foldedSetIterable iter X.env x = pure x := by intro _; rfl) :
    QS X C (.Assign [.Name y py] (.ListComp elt [⟨tg, iter, ifs, 0⟩] scope pos) spos) (wSet i (wLc wi vs wt tt we)) := by
  subst hvs
  exact PS.imp (ps_setLc hc hN hy hyl hsw hi ok hg ht he hs) fun _ _ _ h => tLc_of hsub (tSet_of h)
/-! ### two clauses -/
def wTurn2 (vs : List Nat) (ρ1 : En) (wt : WTg) (tt : WT) (wi1 : WI) (vs1 : List Nat) (wt1 : WTg) (tt1 : WT) (we : WE) (x : PV) (Kk : List PV → Prop) : Prop := wt x ρ1 fun ρ2 => wipeE ρ2 vs = ρ1 ∧ tt ρ2 (fun b ρ3 => ρ3 = ρ2 ∧ if b = true then
  wi1 ρ2 (fun items1 ρ4 => ρ4 = ρ2 ∧ (∀ i ∈ vs1, ρ2[i]? = some none) ∧ items1.length ≤ 4096 ∧ wColl (wTurn vs1 ρ2 wt1 tt1 we) items1 [] Kk) (fun _ => False) else Kk []) (fun _ => False)
def wLc2 (wi : WI) (vs : List Nat) (wt : WTg) (tt : WT) (wi1 : WI) (vs1 : List Nat) (wt1 : WTg) (tt1 : WT) (we : WE) : WE := fun ρ Q E => wi ρ (fun items ρ1 => (∀ i ∈ vs, ρ1[i]? = some none) ∧ items.length ≤ 4095 ∧
  wColl (wTurn2 vs ρ1 wt tt wi1 vs1 wt1 tt1 we) items [] fun l => Q (.ow (.lst l)) ρ1) E
theorem tLc2_of {wi wi1 : WI} {is is1 vs vs1 : List Nat} {wt wt1 : WTg} {tt tt1 : WT} {we : WE} (hsub : ∀ i ∈ is, i ∈ vs) (hsub1 : ∀ i ∈ is1, i ∈ vs1) {Q : VK} (h : tP C (wLc2 wi vs wt tt wi1 vs1 wt1 tt1 we) σ H Q) :
    tLc2 (tPI C wi) (tPG C.nox is wt) (tPT C.nox tt) (tPI C.nox wi1) (tPG C.nox is1 wt1) (tPT C.nox tt1) (tP C.nox we) vs vs1 σ H Q := by
  obtain ⟨G, ρ, ts, Q', E', S, w, q, ee⟩ := h
  refine ⟨G, ρ, ts, _, E', S, w, fun items ρ1 ⟨hv, hz, w⟩ J us H1 S1 ok D nD => ?_, ee⟩
  have SD : Sta C.K G ρ1 ((.ow (.lst []), .ref D) :: (us ++ ts)) σ (upd H1 D (.lst [])) := S1.newLst nD Reps.nil
  have SD : Sta C.K G ρ1 (us ++ (.ow (.lst []), .ref D) :: ts) σ (upd H1 D (.lst [])) := SD.perm List.perm_middle.symm
  have hsz := sizeLine_eq
  refine ⟨fun i m H => m = items.length - i ∧ i ≤ items.length ∧ ∃ acc, acc.length ≤ i * 4096 ∧ Sta C.K G ρ1 (us ++ (.ow (.lst acc), .ref D) :: ts) σ H ∧ wColl (wTurn2 vs ρ1 wt tt wi1 vs1 wt1 tt1 we) (items.drop i) acc fun l => Q' (.ow (.lst l)) ρ1, ⟨_, rfl, Nat.zero_le _, [], Nat.zero_le _, SD, w⟩, ?_⟩
  rintro i m H ⟨rfl, hi, acc, ha, S, w⟩
  by_cases hlt : i < items.length
  · refine .inr ⟨ok.go i G ρ1 _ σ H hlt S, fun H' => ∃ acc, acc.length ≤ (i + 1) * 4096 ∧ Sta C.K G ρ1 (us ++ (.ow (.lst acc), .ref D) :: ts) σ H' ∧ wColl (wTurn2 vs ρ1 wt tt wi1 vs1 wt1 tt1 we) (items.drop (i + 1)) acc fun l => Q' (.ow (.lst l)) ρ1, fun H' h => ⟨items.length - (i + 1), by omega, rfl, hlt, h⟩, fun x H' y => ?_⟩
    obtain ⟨p, ep, S2⟩ := ok.yld i G ρ1 _ σ H x H' hlt S y
    rw [drop_one ep] at w
    have S3 := S2.inBlk hv
    have nbr : ∀ e ∈ us ++ (AV.ow (.lst acc), V.ref D) :: ts, ∀ i, e.1 = .br i → ∃ r, ρ1[i]? = some (some r) := S.brn
    have nbrD : ∀ acc', ∀ e ∈ us ++ (AV.ow (.lst acc'), V.ref D) :: ts, ∀ i, e.1 = .br i → ∃ r, ρ1[i]? = some (some r) := fun acc' e he i ei => by
      rcases List.mem_append.mp he with he | he
      · exact nbr e (List.mem_append_left _ he) i ei
      · rcases List.mem_cons.mp he with rfl | he
        · cases ei
        · exact nbr e (List.mem_append_right _ (List.mem_cons_of_mem _ he)) i ei
    refine ⟨G, ρ1, _, p, _, fun e he j hj ej => ?_, S3, w, fun ρ2 ⟨hw, w⟩ σ2 H2 S4 hl hk => ?_⟩
    · obtain ⟨r, hr⟩ := nbr e he j ej
      rw [hv j (hsub j hj)] at hr
      cases hr
    · have hk2 : ∀ j, j ∉ vs → σ2[j]? = σ[j]? := fun j hj => by
        rw [hk j (fun z => hj (hsub j z)), wipe_out hj]
      refine ⟨wipe_eq (by rw [hl, wipe_length]) hk2, G, ρ2, _, _, fun _ => False, S4, w, fun b ρ3 ⟨e3, w⟩ H3 S5 => ?_, eex_nox⟩
      subst e3
      cases b with
      | false =>
        rw [if_neg (by decide)] at w ⊢
        rw [List.append_nil] at w
        exact ⟨acc, by omega, S5.outBlk hw S1.len hk2 nbr, w⟩
      | true =>
        rw [if_pos rfl] at w ⊢
        refine ⟨G, ρ3, _, _, fun _ => False, S5, w, fun items1 ρ4 ⟨e4, hv1, hz1, w1⟩ J1 us1 H4 S6 ok1 => ?_, eex_nox⟩
        subst e4
        refine ⟨fun j k H => k = items1.length - j ∧ j ≤ items1.length ∧ ∃ ys, ys.length ≤ j ∧ Sta C.K G ρ4 (us1 ++ (us ++ (.ow (.lst (acc ++ ys)), .ref D) :: ts)) σ2 H ∧ wColl (wTurn vs1 ρ4 wt1 tt1 we) (items1.drop j) ys fun ys => wColl (wTurn2 vs ρ1 wt tt wi1 vs1 wt1 tt1 we) (items.drop (i + 1)) (acc ++ ys) fun l => Q' (.ow (.lst l)) ρ1, ⟨_, rfl, Nat.zero_le _, [], Nat.le_refl _, by rw [List.append_nil]; exact S6, w1⟩, ?_⟩
        rintro j k H ⟨rfl, hj, ys, hys, T, w2⟩
        by_cases jlt : j < items1.length
        · refine .inr ⟨ok1.go j G ρ4 _ σ2 H jlt T, fun H' => ∃ ys, ys.length ≤ j + 1 ∧ Sta C.K G ρ4 (us1 ++ (us ++ (.ow (.lst (acc ++ ys)), .ref D) :: ts)) σ2 H' ∧ wColl (wTurn vs1 ρ4 wt1 tt1 we) (items1.drop (j + 1)) ys fun ys => wColl (wTurn2 vs ρ1 wt tt wi1 vs1 wt1 tt1 we) (items.drop (i + 1)) (acc ++ ys) fun l => Q' (.ow (.lst l)) ρ1, fun H' h => ⟨items1.length - (j + 1), by omega, rfl, jlt, h⟩, fun x1 H5 y1 => ?_⟩
          obtain ⟨p1, ep1, T2⟩ := ok1.yld j G ρ4 _ σ2 H x1 H5 jlt T y1
          rw [drop_one ep1] at w2
          have T3 := T2.inBlk hv1
          have nbT := T.brn
          refine ⟨G, ρ4, _, p1, _, fun e he j hj ej => ?_, T3, w2, fun ρ5 ⟨hw5, w5⟩ σ3 H6 T4 hl5 hk5 => ?_⟩
          · obtain ⟨r, hr⟩ := nbT e he j ej
            rw [hv1 j (hsub1 j hj)] at hr
            cases hr
          · have hk6 : ∀ j, j ∉ vs1 → σ3[j]? = σ2[j]? := fun j hj => by
              rw [hk5 j (fun z => hj (hsub1 j z)), wipe_out hj]
            refine ⟨wipe_eq (by rw [hl5, wipe_length]) hk6, G, ρ5, _, _, fun _ => False, T4, w5, fun b ρ6 ⟨e6, w6⟩ H7 T5 => ?_, eex_nox⟩
            subst e6
            cases b with
            | false =>
              rw [if_neg (by decide)] at w6 ⊢
              rw [List.append_nil] at w6
              exact ⟨ys, by omega, T5.outBlk hw5 T.len hk6 nbT, w6⟩
            | true =>
              rw [if_pos rfl] at w6 ⊢
              refine ⟨G, ρ6, _, _, fun _ => False, T5, w6, fun r ρ7 w7 v H8 T6 => ?_, eex_nox⟩
              split at w7
              · rename_i p' ρ8 ef
                obtain ⟨e8, w8⟩ := w7
                subst e8
                rw [← List.append_assoc] at T6
                obtain ⟨vs', hD, hl', T7⟩ := T6.addD ef
                rw [List.length_append] at hl'
                refine ⟨vs', hD, by omega, ys ++ [p'], by simp; omega, ?_, w8⟩
                rw [List.append_assoc, List.append_assoc] at T7
                refine T7.outBlk hw5 T.len hk6 fun e he i ei => ?_
                rcases List.mem_append.mp he with he | he
                · exact nbT e (List.mem_append_left _ he) i ei
                · rcases List.mem_append.mp he with he | he
                  · exact nbT e (List.mem_append_right _ (List.mem_append_left _ he)) i ei
                  · rcases List.mem_cons.mp he with rfl | he
                    · cases ei
                    · exact nbT e (List.mem_append_right _ (List.mem_append_right _ (List.mem_cons_of_mem _ he))) i ei
              · exact w7.elim
        · have e : j = items1.length := by omega
          subst e
          rw [List.drop_length] at w2
          exact .inl ⟨ok1.stop G ρ4 _ σ2 H T, acc ++ ys, by rw [List.length_append]; omega, T.dropN.outBlk hw S1.len hk2 (nbrD _), w2⟩
  · have e : i = items.length := by omega
    subst e
    rw [List.drop_length] at w
    exact .inl ⟨ok.stop G ρ1 _ σ H S, q _ _ w _ _ S.dropN⟩
theorem qe_lc2 {elt tg iter tg1 iter1 : Expr} {ifs ifs1 : List Expr} {scope : Scope} {own : List (Str × Nat)} {vs vs1 : List Nat} {wi wi1 : WI} {is is1 : List Nat} {wt wt1 : WTg} {tt tt1 : WT} {we : WE} (hc : X.calm = true) (hN : X.N.Nodup) (hi : QI X C tg iter wi) (ok : BlkOk X.N X.env.scope scope own) (hvs : own.map (·.2) = vs) (hv : ∀ i ∈ vs1, i ∈ vs) (hsub : ∀ i ∈ is, i ∈ vs) (hsub1 : ∀ i ∈ is1, i ∈ vs1)
    (hg : Blk X scope fun X' => QG X' C.nox tg is wt) (ht : Blk X scope fun X' => PTs X' ifs (tPT C.nox tt)) (hi1 : Blk X scope fun X' => QI X' C.nox tg1 iter1 wi1) (hg1 : Blk X scope fun X' => QG X' C.nox tg1 is1 wt1) (ht1 : Blk X scope fun X' => PTs X' ifs1 (tPT C.nox tt1)) (he : Blk X scope fun X' => QE X' C.nox elt we)
    (hs : ∀ x, foldedSetIterable iter X.env x = pure x := by intro _; rfl) (hs1 : ∀ env x, foldedSetIterable iter1 env x = pure x := by intro _ _; rfl) :
    QE X C (.ListComp elt [⟨tg, iter, ifs, 0⟩, ⟨tg1, iter1, ifs1, 0⟩] scope pos) (wLc2 wi vs wt tt wi1 vs1 wt1 tt1 we) := by
  subst hvs
  exact PE.imp (pe_lc2 hc hN hi ok hv hg ht hi1 hg1 ht1 he hs hs1) fun _ _ _ h => tLc2_of hsub hsub1 h
end SyP
set_option autoImplicit false
/-! Pure words 8: defs, calls, errors, further statements and walks. -/
namespace SyP
open PySem PySem.Spec PyProof.Rows L2 Sy
variable {K : PySem.W.Frag} {sa : SA} {H H' Hm : Hp} {G : Gh} {ρ ρ' : En} {ts ts' : Ts} {σ σ' : L2.St} {C : CC} {X : Cx} {a b c : Expr} {pos p2 : Pos} {wa wb wc w : WE} {e : Expr} {es : List Expr} {wr : WA}
/-! ### defs -/
/-- what a body makes of its arguments -/
def wDef (n : Nat) (wb : WS) : WF := fun ps Q E => wb ⟨fun _ => Q (.fz .non), Q, fun _ => False, fun _ => False, E⟩ (ps.map (fun p => some (AV.fz p)) ++ List.replicate (n - ps.length) none)
abbrev CC.of (K : PySem.W.Frag) (mg : Str → Option Value) : CC := ⟨K, mg, fun _ _ _ => False⟩
/-- a def stands at a name, and keeps a promise over trees -/
structure HasF (P : Program) (w : World) (K : PySem.W.Frag) (mg : Str → Option Value) (base : Heap) (k : Nat) (nm : Str) (ps : List Str) (wf : WF) : Prop where
  ex : ∃ f fd, mg nm = some (.ref f) ∧ PySem.W.keepIn K (.ref f) = true ∧ Binds K fd ps [] ∧ FnOk P w K mg base (L2.CX P w) k f fd ps (spW (CC.of K mg) ps.length wf)
theorem sta0 {ps : List PV} {vs : List V} {N : List Str} (sk : saOk G.sa G.H0) (so : ∀ l s, G.sa = some (l, s) → G.O s) (od : ∀ a, G.O a → G.H0 a ≠ none) (r : Reps K G.sa (msk G.O G.H0) ps vs) :
    Sta K G (ps.map (fun p => some (AV.fz p)) ++ List.replicate (N.length - ps.length) none) [] (start N vs) G.H0 := by
  have hl := r.length
  have none_ow : ∀ {i : Nat} {e : AV × V} {a : Addr}, SlAt (ps.map (fun p => some (AV.fz p)) ++ List.replicate (N.length - ps.length) none) (start N vs) i e → OwAt e a → False := fun {i e a} hs ho => by
    obtain ⟨h1, _⟩ := hs
    have hm := List.mem_of_getElem? h1
    rcases List.mem_append.mp hm with hm | hm
    · obtain ⟨p, _, e1⟩ := List.mem_map.mp hm
      obtain ⟨⟨q, e2⟩, _⟩ := ho
      rw [e2] at e1
      cases e1
    · have := List.eq_of_mem_replicate hm
      cases this
  have no : ∀ {a : Addr}, ¬ Owns (ps.map (fun p => some (AV.fz p)) ++ List.replicate (N.length - ps.length) none) [] (start N vs) a := fun {a} z => by
    rcases z with ⟨i, e, hs, ho⟩ | ⟨e, he, _⟩
    · exact none_ow hs ho
    · cases he
  refine ⟨?_, Fra.refl, sk, so, fun l s e => ?_, od, fun a z => absurd z no, fun i r' e => ?_, fun e he => (nomatch he), fun i j e f a hs _ ho _ => (none_ow hs ho).elim, fun i e f a hs _ ho _ => none_ow hs ho, .nil, fun e he => nomatch he⟩
  · unfold L2.start
    rw [List.length_append, List.length_append, List.length_map, List.length_map, List.length_replicate, List.length_replicate, hl]
  · obtain ⟨_, _, _, _, h1, _⟩ := sk l s e
    rw [h1]
    exact fun z => nomatch z
  · have hi : i < ps.length := by
      by_cases hi : i < ps.length
      · exact hi
      · rw [List.getElem?_append_right (by rw [List.length_map]; omega), List.length_map] at e
        have := List.eq_of_mem_replicate (List.mem_of_getElem? e)
        cases this
    rw [List.getElem?_append_left (by rw [List.length_map]; exact hi), List.getElem?_map, List.getElem?_eq_getElem hi] at e
    cases e
    obtain ⟨v, e1, e2⟩ := r.get (List.getElem?_eq_getElem hi)
    refine ⟨v, ?_, ?_⟩
    · unfold L2.start
      rw [List.getElem?_append_left (by rw [List.length_map]; omega), List.getElem?_map, e1]
      rfl
    · show Rep K G.sa _ _ v
      exact Rep.same (msk_same fun a o n e => ⟨fun z => z.elim no n, e⟩) e2
section
variable {P : Program} {w : World} {mg : Str → Option Value} {base : Heap} {x qual : Str} {st : Stmt} {f : Addr} {fd : FuncData} {N ps : List Str} {k : Nat} {wb : WS}
theorem def_ok (F : Fun K x qual st f fd) (S : FnScope N ps (defScope st))
    (hbody : ∀ (cdv : Value) (A : Around) (outer : List Env) (s : Shared) (H : Hp) (E : XK), Room k (A.deeper (envOfC qual (defScope st) s.heap.objs.size f cdv)) → QSs (cxOf (L2.CX P w) P w K mg base N qual (defScope st) f cdv A outer s H E) ⟨K, mg, E⟩ (defBody st) wb) :
    FnOk P w K mg base (L2.CX P w) (k + 1) f fd ps (spW (CC.of K mg) ps.length (wDef N.length wb)) := by
  refine F.okX S (fun vs H Q E h => h.len) fun cdv A outer s H vs Q E hr h => ?_
  obtain ⟨G, qs, Q', E', rfl, sk, so, od, r, hl, w, q, ee⟩ := h
  refine ⟨_, hbody cdv A outer s G.H0 E hr, ⟨G, _, [], _, FzT.nil, sta0 sk so od r, w, ?_, ?_, ?_, ?_, ?_⟩⟩
  · exact fun ρ w σ H S => q _ w _ _ ⟨S.fr, S.sk, by unfold Rep; rfl⟩
  · exact fun r w v H h => q r w v H h
  · exact fun ρ w => w.elim
  · exact fun ρ w => w.elim
  · exact fun e w cls d H' h => ee e w cls d H' h
theorem has_of (F : Fun K x qual st f fd) (hm : mg x = some (.ref f)) (hb : Binds K fd ps []) {wf : WF} (h : FnOk P w K mg base (L2.CX P w) k f fd ps (spW (CC.of K mg) ps.length wf)) : HasF P w K mg base k x ps wf := ⟨f, fd, hm, F.kp, hb, h⟩
theorem HasF.mono {j : Nat} {wf : WF} (h : HasF P w K mg base j x ps wf) (hj : j ≤ k) : HasF P w K mg base k x ps wf := by
  obtain ⟨f, fd, h1, h2, h3, h4⟩ := h.ex
  exact ⟨f, fd, h1, h2, h3, h4.mono hj⟩
/-- a promise in other words -/
theorem HasF.imp {wf wf' : WF} (h : HasF P w K mg base k x ps wf) (i : ∀ qs Q E, wf' qs Q E → wf qs Q E) : HasF P w K mg base k x ps wf' := by
  obtain ⟨f, fd, h1, h2, h3, h4⟩ := h.ex
  exact ⟨f, fd, h1, h2, h3, h4.imp fun vs H Q E ⟨G, qs, Q', E', e0, sk, so, od, r, hl, w, q⟩ => ⟨G, qs, Q', E', e0, sk, so, od, r, hl, i _ _ _ w, q⟩⟩
end
/-- a promise for that many arguments -/
def wN (n : Nat) (wf : WF) : WF := fun qs Q E => qs.length = n ∧ wf qs Q E
/-- f(..) -/
theorem qe_f {k n : Nat} {ps : List Str} {wf : WF} {x : Str} {p : Pos} (F : HasF X.prog X.w X.K X.mg X.base k x ps wf) (hn : ps.length = n) (hC : C.K = X.K ∧ C.mg = X.mg) (hr : Room k X.A) (hg : Gl X x) (hx : Passes (L2.CX X.prog X.w) X C.E0)
    (ha : QA X C (e :: es) wr) (hdb : (x == ("__debug__" : Str)) = false := by decide) (he : starEach (e :: es) X.env = (false, eval e X.env) :: starEach es X.env := by rfl) (hpl : (backTo pos (starEach es X.env)).any (·.1) = false := by rfl) :
    QE X C (.Call (.Name x p) (e :: es) [] pos) (wCall (wN n wf) wr) := by
  subst hn
  obtain ⟨f, fd, h1, h2, h3, h4⟩ := F.ex
  rw [← hC.1, ← hC.2] at h4
  exact qe_call (C := C) (n := ps.length) (by rw [hC.1, hC.2] at h4 ⊢; exact h4) (fun _ _ _ _ _ => trivial) hr hg h1 h2 h3 hx ha hdb he hpl
theorem passes_no {Y : Cx} : Passes (L2.CX Y.prog Y.w) Y (fun _ _ _ => False) := fun pins σ H s e s' I h => by
  obtain ⟨_, _, _, _, _, _, _, _, _, _, _, _, z⟩ := h
  exact z.elim
theorem passes_E {E : XK} (tk : Takes X (fun cls d _ H => E cls d H)) : Passes (L2.CX X.prog X.w) X E := passes_call tk fun _ _ _ _ h => h
/-! ### errors -/
/-- self.fld = v, of an exception that is being made -/
def spXi (A : Addr) (fld : Str) : Sp := fun vs H Q _ => ∃ (a : Addr) (v : V), vs = [.ref a, v] ∧ H a = some (exo a A none) ∧ ∀ dx, H dx = none → dx ≠ a → Q .non (upd (upd H dx (exd dx [(fld, v)])) a (exo a A (some dx)))
/-- a class of exceptions whose one field is set by its own __init__ -/
structure Xc (P : Program) (w : World) (K : PySem.W.Frag) (mg : Str → Option Value) (base : Heap) (nm fld : Str) (A : Addr) : Prop where
  T : OexC K A
  g : mg nm = some (.ref A)
  ini : ∃ fI fd, PySem.W.findIn K (.ref A) "__init__" = some (some (.ref fI)) ∧ PySem.W.typeIn K (.ref fI) = some (.type "function") ∧ FnOk P w K mg base CX0 1 fI fd ["self", fld] (spXi A fld) ∧ Binds K fd ["self", fld] []
  xf : XfC K A
  no : PySem.W.findIn K (.ref A) fld = some none
  te : PySem.W.exmOne K (.ref A) (.ref A) = some true
/-- what raising leaves: an exception's dict, new; all else as it was -/
def Rz (E : XK) (A : Addr) (fld : Str) (v : V) (H : Hp) : Prop := ∀ d H', H d = none → Same H H' → H' d = some (.xd [(fld, v)]) → E (.ref A) (some d) H'
theorem rz_of {A : Addr} {fld : Str} {v : V} {H : Hp} {W : XK} (h : Rz W A fld v H) : ([v] : List V).length ≤ 1000 ∧ ∀ a, H a = none → spXi A fld (.ref a :: ([v] ++ [])) (upd H a (exo a A none))
    (fun u H2 => u = .non ∧ ∃ (d : Addr) (fs : List (Str × V)), H2 a = some (exo a A (some d)) ∧ H2 d = some (exd d fs) ∧ H d = none ∧ W (.ref A) (some d) (upd (del H2 a) d (.xd fs))) (fun _ _ _ => False) := by
  refine ⟨by show 1 ≤ 1000; decide, fun a ha => ⟨a, v, rfl, upd_same, fun dx hd hne => ⟨rfl, dx, [(fld, v)], upd_same, ?_, ?_, ?_⟩⟩⟩
  · rw [upd_ne hne, upd_same]
  · rw [upd_ne hne] at hd
    exact hd
  · rw [upd_ne hne] at hd
    refine h dx _ hd (fun b o e => ?_) upd_same
    have h1 : b ≠ a := ne_of_none e ha
    have h2 : b ≠ dx := ne_of_none e hd
    rw [upd_ne h2, del_ne h1, upd_ne h1, upd_ne h2, upd_ne h1]
    exact e
/-- raise C(e) -/
def tRz (A : Addr) (fld : Str) (W : WX) (te : TE) : TS := fun _ σ H => tCons te tNil σ H fun vs H1 => vs.length ≤ 1000 ∧ ∀ a, H1 a = none → spXi A fld (.ref a :: (vs ++ [])) (upd H1 a (exo a A none))
    (fun u H2 => u = .non ∧ ∃ (d : Addr) (fs : List (Str × V)), H2 a = some (exo a A (some d)) ∧ H2 d = some (exd d fs) ∧ H1 d = none ∧ W (.ref A) (some d) σ (upd (del H2 a) d (.xd fs))) (fun _ _ _ => False)
theorem ps_rz {A : Addr} {nm fld : Str} {W : WX} {te : TE} {p pos2 : Pos} (Z : Xc X.prog X.w X.K X.mg X.base nm fld A) (hc : X.calm = true) (tk : Takes X W) (hr : Room 2 X.A) (he : PE X e te) (hg : Gl X nm := by rfl) (hdb : (nm == ("__debug__" : Str)) = false := by decide)
    (hs : starEach (e :: []) X.env = (false, eval e X.env) :: starEach [] X.env := by rfl) (hpl : (backTo pos (starEach [] X.env)).any (·.1) = false := by rfl) :
    PS X (.Raise (some (.Call (.Name nm p) [e] [] pos)) none pos2) (tRz A fld W te) := by
  obtain ⟨fI, fd, h1, h2, F1, hb⟩ := Z.ini
  exact ps_raise hc tk (pmk_oex Z.T h1 h2 F1 hr hb .nil pass0 hg Z.g (pa_cons he pa_nil hs) hdb hs hpl)
def wRaise (nm fld : Str) (we : WE) : WS := fun P ρ => we ρ (fun r ρ1 => match fz1 ρ1 r with
  | some (p, _) => P.ex ⟨nm, [(fld, p)]⟩
  | none => False) P.ex
theorem qs_raise {A : Addr} {nm fld : Str} {we : WE} {p pos2 : Pos} (Z : Xc X.prog X.w X.K X.mg X.base nm fld A) (hC : C.mg = X.mg) (hc : X.calm = true) (tk : Takes X (fun cls d _ H => C.E0 cls d H)) (hr : Room 2 X.A) (he : QE X C e we) (hg : Gl X nm := by rfl) (hdb : (nm == ("__debug__" : Str)) = false := by decide)
    (hs : starEach (e :: []) X.env = (false, eval e X.env) :: starEach [] X.env := by rfl) (hpl : (backTo pos (starEach [] X.env)).any (·.1) = false := by rfl) :
    QS X C (.Raise (some (.Call (.Name nm p) [e] [] pos)) none pos2) (wRaise nm fld we) :=
  PS.imp (ps_rz Z hc tk hr he hg hdb hs hpl) fun D σ H ⟨G, ρ, ts, P, ft, S, w, d⟩ => ⟨G, ρ, ts, _, P.ex, S, w, fun r ρ1 w v H1 S1 => by
    split at w
    · rename_i q ρ2 ef
      have S2 := S1.fz1 ef
      refine rz_of (W := C.E0) fun dx H' hd sm hx => d.ex _ w _ _ _ ⟨S2.fr.trans (Fra.of sm), saOk.same sm S2.sk, A, dx, [v], by rw [hC]; exact Z.g, rfl, rfl, hx, ?_⟩
      refine Reps.cons (Rep.same (msk_same fun a o n e => ⟨fun z => n (.inr z), sm _ _ e⟩) (S2.tmp _ List.mem_cons_self)) Reps.nil
    · exact w.elim, d.ex⟩
/-! ### name op= e -/
def wAug (i : Nat) (w2 : W2) (we : WE) : WS := fun P ρ => match ρ[i]? with
  | some (some (.fz p)) => we ρ (fun r ρ1 => w2 ρ1 (.fz p) r fun res ρ2 => wKeep ρ2 res fun r' ρ3 => i < ρ3.length ∧ P.nx (ρ3.set i (some r'))) P.ex
  | _ => False
theorem qs_aug {i : Nat} {x : Str} {op : Operator} {w2 : W2} {r : R2} {we : WE} {pos' : Pos} (h2 : Op2 C w2 r) (hN : X.N.Nodup) (hi : X.N[i]? = some x) (hx : Loc X.env.scope x) (he : QE X C e we) (ho : OpR X (inplaceOp op) r) (hf : X.fn x = true ∨ X.env.scope.names.lookup x = some .local := by first | exact .inl rfl | exact .inr rfl | assumption) :
    QS X C (.AugAssign (.Name x pos') op e pos) (wAug i w2 we) :=
  PS.imp (ps_aug hN hi hx he ho hf) fun D σ H ⟨G, ρ, ts, P, ft, S, w, d⟩ => by
    unfold wAug at w
    split at w
    · rename_i p ep
      obtain ⟨v, e1, e2⟩ := S.slot i _ ep
      refine ⟨v, e1, G, ρ, (.fz p, v) :: ts, _, P.ex, S.push e2, w, fun r ρ1 w y H1 S1 => ?_, d.ex⟩
      refine h2 G ρ1 ts σ H1 v y (.fz p) r _ _ S1 w fun res ρ2 w z H2 S2 => ?_
      unfold wKeep at w
      split at w
      · rename_i r' ρ3 ek
        exact d.nx _ w.2 _ _ ((S2.keepA ek).put (keepA_nb ek) (fun e he => ft.noBr e he i (List.mem_singleton.mpr rfl)) w.1)
      · exact w.elim
    · exact w.elim
def wAugAdd : W2 := fun ρ ra rb Q => match look ρ ra, look ρ rb with
  | some (.int i), some (.int j) => Q (.fz (.int (i + j))) ρ
  | some (.str i), some (.str j) => i.length + j.length ≤ sizeLine ∧ Q (.fz (.str (i ++ j))) ρ
  | _, _ => False
def rAugAdd : R2 := fun x y H Q => rI0 (fun i j => .int (i + j)) x y H Q ∨ rAddStr x y H Q
theorem iop_addP : OpR X (inplaceOp .Add) rAugAdd := iop_add.or (r' := rAddStr) iop_add_str
theorem o2_augAdd : Op2 C wAugAdd rAugAdd := fun G ρ ts σ H x y ra rb Q' Q S w q => by
  unfold wAugAdd at w
  split at w
  · rename_i i j e1 e2
    exact .inl ⟨i, j, (S.top mem1 e1).int, (S.top List.mem_cons_self e2).int, q _ _ w _ _ (S.pop.pop.pushSc rfl)⟩
  · rename_i i j e1 e2
    exact .inr ⟨i, j, (S.top mem1 e1).str, (S.top List.mem_cons_self e2).str, w.1, q _ _ w.2 _ _ (S.pop.pop.pushSc rfl)⟩
  · exact w.elim
def wAugMul : W2 := wII CMul fun i j => .int (i * j)
theorem o2_augMul : Op2 C wAugMul (rI CMul fun i j => .int (i * j)) := o2_I fun _ _ => rfl
/-! ### o[k] = e, o a list that a name alone holds -/
def wSetIx (wv wo wk : WE) : WS := fun P ρ => wv ρ (fun rv ρ1 => wo ρ1 (fun ro ρ2 => wk ρ2 (fun rk ρ3 => ∃ i l k j, ro = .br i ∧ look ρ3 rk = some (.int k) ∧ match fz1 ρ3 rv with
  | some (p, ρ4) => ρ4[i]? = some (some (.ow (.lst l))) ∧ ixN l.length k = some j ∧ P.nx (ρ4.set i (some (.ow (.lst (l.set j p)))))
  | none => False) P.ex) P.ex) P.ex
theorem qs_setIx {o k : Expr} {wv wo wk : WE} {tpos : Pos} (he : QE X C e wv) (ho : QE X C o wo) (hk : QE X C k wk) (ha : ∀ v, assign (.Subscript o k tpos) X.env v = (do
      let ov ← holding [v] (eval o X.env)
      let iv ← holding [v, ov] (eval k X.env)
      standAt tpos
      holding [v, ov, iv] (setItem ov iv v)
      release [v, ov, iv] []) := by intro _; rfl)
    (hs : swapsWithSole [.Subscript o k tpos] e pos.line X.env = pure false := by rfl) (hw : swappedStores [.Subscript o k tpos] e X.env = pure none := by rfl) (h1 : (assignEach [.Subscript o k tpos] X.env).map (·.2) = [assign (.Subscript o k tpos) X.env] := by rfl) :
    QS X C (.Assign [.Subscript o k tpos] e pos) (wSetIx wv wo wk) :=
  PS.imp (ps_asg he (pg_sub ho hk set_list ha) hs hw h1) fun D σ H ⟨G, ρ, ts, P, ft, S, w, d⟩ => ⟨G, ρ, ts, _, P.ex, S, w, fun rv ρ1 w v H1 S1 => ⟨G, ρ1, (rv, v) :: ts, _, P.ex, S1, w, fun ro ρ2 w x H2 S2 => ⟨G, ρ2, (ro, x) :: (rv, v) :: ts, _, P.ex, S2, w, fun rk ρ3 ⟨i, l, k, j, er, ek, w3⟩ y H3 S3 => by
    have hy := (S3.top List.mem_cons_self ek).int
    cases er
    split at w3
    · rename_i p ρ4 ef
      obtain ⟨e4, ej, w4⟩ := w3
      have S4 : Sta C.K G ρ3 ((rv, v) :: (.br i, x) :: ts) σ H3 := S3.pop.perm (List.Perm.swap _ _ _)
      have S5 := S4.fz1 ef
      obtain ⟨a, rfl, hσ, vs, ha, hr⟩ := S5.brOw mem1 e4
      refine ⟨a, vs, k, j, rfl, hy, ha, by rw [hr.length]; exact ej, ?_⟩
      have S6 := S5.mut (o := .lst (vs.set j v)) e4 hσ (p' := .lst (l.set j p)) ⟨_, upd_same, Reps.set j (S5.tmp _ List.mem_cons_self) hr⟩
      exact d.nx _ w4 _ _ S6.pop.pop
    · exact w3.elim, d.ex⟩, d.ex⟩, d.ex⟩
/-! ### methods of texts -/
def wStr2 (g : Str → Str → PV) (wa wb : WE) : WE := fun ρ Q E => wa ρ (fun ra ρ1 => ∃ x, look ρ1 ra = some (.str x) ∧ wb ρ1 (fun rb ρ2 => ∃ y, look ρ2 rb = some (.str y) ∧ Q (.fz (g x y)) ρ2) E) E
theorem qe_str2 {mid : String} {name : Str} {apos : Pos} {g : Str → Str → PV} {g' : Str → Str → V} {o : Expr} (s : ∀ x y, Sc (g x y) (g' x y)) (slot : Slot "str" name mid) (ty : typeOf (.builtin mid) = pure (.type "method_descriptor")) (rule : MtR X mid (fun x xs H Q => ∃ a b, x = .str a ∧ xs = [.str b] ∧ Q (g' a b) H)) (ho : QE X C o wa) (he : QE X C e wb)
    (hs : starEach [e] X.env = [(false, eval e X.env)] := by rfl) (hbase : attributeBase o name X.env (eval o X.env) = eval o X.env := by rfl) (hline : (apos.endLine == pos.line) = true := by rfl) : QE X C (.Call (.Attribute o name apos) [e] [] pos) (wStr2 g wa wb) :=
  PE.imp (pe_m1 slot ty rule ho he hs hbase hline) fun σ H Q ⟨G, ρ, ts, Q', E', S, w, q, ee⟩ => ⟨G, ρ, ts, _, E', S, w, fun ra ρ1 ⟨x, e1, w⟩ v H1 S1 => ⟨⟨x, (S1.top List.mem_cons_self e1).str⟩, G, ρ1, (ra, v) :: ts, _, E', S1, w, fun rb ρ2 ⟨y, e2, w⟩ u H2 S2 =>
    ⟨x, y, (S1.top List.mem_cons_self e1).str, by rw [(S2.top List.mem_cons_self e2).str], q _ _ w _ _ (S2.pop.pop.pushSc (s x y))⟩, ee⟩, ee⟩
def wStarts : WE → WE → WE := wStr2 fun a b => .bl (Txt.startswith a b)
def wEnds : WE → WE → WE := wStr2 fun a b => .bl (Txt.endswith a b)
theorem qe_startswith {apos : Pos} {o : Expr} (ho : QE X C o wa) (he : QE X C e wb) (hs : starEach [e] X.env = [(false, eval e X.env)] := by rfl) (hbase : attributeBase o "startswith" X.env (eval o X.env) = eval o X.env := by rfl) (hline : (apos.endLine == pos.line) = true := by rfl) : QE X C (.Call (.Attribute o "startswith" apos) [e] [] pos) (wStarts wa wb) :=
  qe_str2 (g' := fun a b => .bl (Txt.startswith a b)) (fun _ _ => rfl) PySem.F.slot_str_startswith PySem.F.type_str_startswith mt_startswith ho he hs hbase hline
theorem qe_endswith {apos : Pos} {o : Expr} (ho : QE X C o wa) (he : QE X C e wb) (hs : starEach [e] X.env = [(false, eval e X.env)] := by rfl) (hbase : attributeBase o "endswith" X.env (eval o X.env) = eval o X.env := by rfl) (hline : (apos.endLine == pos.line) = true := by rfl) : QE X C (.Call (.Attribute o "endswith" apos) [e] [] pos) (wEnds wa wb) :=
  qe_str2 (g' := fun a b => .bl (Txt.endswith a b)) (fun _ _ => rfl) PySem.F.slot_str_endswith PySem.F.type_str_endswith mt_endswith ho he hs hbase hline
/-- s.join(row of texts) -/
def wJoin (wa wb : WE) : WE := fun ρ Q E => wa ρ (fun ra ρ1 => ∃ x, look ρ1 ra = some (.str x) ∧ wb ρ1 (fun rb ρ2 => ∃ (p : PV) (ys : List Str), look ρ2 rb = some p ∧ itemsP p = some (ys.map PV.str) ∧ (ys.map (·.length)).sum + ys.length * x.length ≤ 16777216 ∧ Q (.fz (.str (Txt.join x ys))) ρ2) E) E
theorem qe_join {apos : Pos} {o : Expr} (hk : X.K = C.K) (ho : QE X C o wa) (he : QE X C e wb) (hs : starEach [e] X.env = [(false, eval e X.env)] := by rfl) (hbase : attributeBase o "join" X.env (eval o X.env) = eval o X.env := by rfl) (hline : (apos.endLine == pos.line) = true := by rfl) : QE X C (.Call (.Attribute o "join" apos) [e] [] pos) (wJoin wa wb) :=
  PE.imp (pe_join ho he hs hbase hline) fun σ H Q ⟨G, ρ, ts, Q', E', S, w, q, ee⟩ => ⟨G, ρ, ts, _, E', S, w, fun ra ρ1 ⟨x, e1, w⟩ v H1 S1 => ⟨⟨x, (S1.top List.mem_cons_self e1).str⟩, G, ρ1, (ra, v) :: ts, _, E', S1, w, fun rb ρ2 ⟨p, ys, e2, e3, hz, w⟩ u H2 S2 => by
    have t := S2.top List.mem_cons_self e2
    rw [hk]
    have fin := q _ _ w (.str (Txt.join x ys)) _ (S2.pop.pop.pushSc rfl)
    cases p with
    | tup l =>
      cases e3
      obtain ⟨a, vs, rfl, h1, h2⟩ := t
      rw [h2.strs] at h1
      exact ⟨x, a, ys, (S1.top List.mem_cons_self e1).str, rfl, .inr h1, hz, fin⟩
    | lst l =>
      cases e3
      obtain ⟨a, vs, rfl, h1, h2⟩ := t
      rw [h2.strs] at h1
      exact ⟨x, a, ys, (S1.top List.mem_cons_self e1).str, rfl, .inl (SqL.of h1), hz, fin⟩
    | _ => exact (by cases e3), ee⟩, ee⟩
/-- s.index(t) of a text that is in it -/
def wSIndex (wa wb : WE) : WE := fun ρ Q E => wa ρ (fun ra ρ1 => ∃ x, look ρ1 ra = some (.str x) ∧ wb ρ1 (fun rb ρ2 => ∃ y i rest, look ρ2 rb = some (.str y) ∧ Builtin.Str.occurrences x y 0 x.length 1 = i :: rest ∧ Q (.fz (.int (i : Nat))) ρ2) E) E
theorem qe_sindex {apos : Pos} {o : Expr} (ho : QE X C o wa) (he : QE X C e wb) (hs : starEach [e] X.env = [(false, eval e X.env)] := by rfl) (hbase : attributeBase o "index" X.env (eval o X.env) = eval o X.env := by rfl) (hline : (apos.endLine == pos.line) = true := by rfl) : QE X C (.Call (.Attribute o "index" apos) [e] [] pos) (wSIndex wa wb) :=
  PE.imp (pe_m1 PySem.F.slot_str_index PySem.F.type_str_index mt_sindex ho he hs hbase hline) fun σ H Q ⟨G, ρ, ts, Q', E', S, w, q, ee⟩ => ⟨G, ρ, ts, _, E', S, w, fun ra ρ1 ⟨x, e1, w⟩ v H1 S1 => ⟨⟨x, (S1.top List.mem_cons_self e1).str⟩, G, ρ1, (ra, v) :: ts, _, E', S1, w, fun rb ρ2 ⟨y, i, rest, e2, eo, w⟩ u H2 S2 =>
    ⟨x, y, i, rest, (S1.top List.mem_cons_self e1).str, by rw [(S2.top List.mem_cons_self e2).str], eo, q _ _ w _ _ (S2.pop.pop.pushSc rfl)⟩, ee⟩, ee⟩
end SyP
/-! Syncedwords, part 1: a set made of a tuple of texts, a text times a number, heaps but for one place. -/
namespace Sy
open PySem PySem.Spec PyProof.Rows

/-! ### the texts of a list, each once, as they are first met -/
def met (xs : List Str) : List Str := xs.foldl (fun acc x => if acc.any (· == x) then acc else acc ++ [x]) []
theorem met_snoc (xs : List Str) (x : Str) : met (xs ++ [x]) = if (met xs).any (· == x) then met xs else met xs ++ [x] := by
  unfold met
  rw [List.foldl_append]
  rfl
theorem met_take {xs : List Str} {i : Nat} (h : i < xs.length) : met (xs.take (i + 1)) = if (met (xs.take i)).any (· == xs[i]) then met (xs.take i) else met (xs.take i) ++ [xs[i]] := by
  rw [List.take_add_one, List.getElem?_eq_getElem h]
  exact met_snoc _ _
theorem any_mem {xs : List Str} {x : Str} : xs.any (· == x) = true ↔ x ∈ xs := by
  rw [List.any_eq_true]
  constructor
  · rintro ⟨y, hy, e⟩
    rw [← beq_iff_eq.mp e]
    exact hy
  · intro h
    exact ⟨x, h, beq_self_eq_true x⟩
/-- induction from the end -/
theorem snoc_ind {α : Type} {P : List α → Prop} (h0 : P []) (h1 : ∀ xs x, P xs → P (xs ++ [x])) (xs : List α) : P xs := by
  have h : ∀ r : List α, P r.reverse := by
    intro r
    induction r with
    | nil => exact h0
    | cons a r ih =>
      rw [List.reverse_cons]
      exact h1 _ _ ih
  have := h xs.reverse
  rw [List.reverse_reverse] at this
  exact this
theorem met_mem (k : Str) (xs : List Str) : k ∈ met xs ↔ k ∈ xs := by
  refine snoc_ind (P := fun xs => k ∈ met xs ↔ k ∈ xs) Iff.rfl (fun xs x ih => ?_) xs
  rw [met_snoc]
  by_cases h : (met xs).any (· == x) = true
  · rw [if_pos h]
    have hx := any_mem.mp h
    constructor
    · intro q
      exact List.mem_append_left _ (ih.mp q)
    · intro q
      rcases List.mem_append.mp q with q | q
      · exact ih.mpr q
      · rw [List.mem_singleton.mp q]
        exact hx
  · rw [if_neg h, List.mem_append, List.mem_append, ih]
theorem met_le (xs : List Str) : (met xs).length ≤ xs.length := by
  refine snoc_ind (P := fun xs => (met xs).length ≤ xs.length) (Nat.le_refl _) (fun xs x ih => ?_) xs
  rw [met_snoc, List.length_append]
  split
  · exact Nat.le_succ_of_le ih
  · rw [List.length_append]
    exact Nat.add_le_add_right ih _
theorem nodup_snoc {α : Type} {xs : List α} {x : α} : (xs ++ [x]).Nodup ↔ xs.Nodup ∧ x ∉ xs := by
  rw [List.nodup_append]
  constructor
  · rintro ⟨a, _, c⟩
    exact ⟨a, fun h => c x h x (List.mem_singleton.mpr rfl) rfl⟩
  · rintro ⟨a, b⟩
    refine ⟨a, List.nodup_cons.mpr ⟨by simp, List.nodup_nil⟩, fun y hy z hz e => ?_⟩
    rw [List.mem_singleton.mp hz] at e
    exact b (e ▸ hy)
theorem met_len (xs : List Str) : (met xs).length = xs.length ↔ xs.Nodup := by
  refine snoc_ind (P := fun xs => (met xs).length = xs.length ↔ xs.Nodup) (by simp [met]) (fun xs x ih => ?_) xs
  rw [met_snoc, nodup_snoc, List.length_append, ← ih]
  have hle := met_le xs
  by_cases h : (met xs).any (· == x) = true
  · rw [if_pos h]
    have hx : x ∈ xs := (met_mem x xs).mp (any_mem.mp h)
    constructor
    · intro q
      exfalso
      have : [x].length = 1 := rfl
      omega
    · rintro ⟨_, n⟩
      exact absurd hx n
  · rw [if_neg h, List.length_append]
    have hx : x ∉ xs := fun q => h (any_mem.mpr ((met_mem x xs).mpr q))
    constructor
    · intro q
      exact ⟨by omega, hx⟩
    · rintro ⟨q, _⟩
      rw [q]

/-! ### set(xs), xs a tuple of texts -/
section
variable {prog : Program} {w : World} {A : Around} {R : Result → Shared → Prop} {I : Addr} {fp wr : List Addr} {G : Array GenState → Array GenState → Prop} {n : Nat} {P : Nat → Value → Prop} {St : Nat → Shared → Prop}
/-- the machine's loop that puts the items in, from the i-th on -/
theorem set_loop (W : WalksS prog w A.in1 I fp wr G n P St) (S : Addr) (out : S ∉ fp) (xs : List Str) (hn : xs.length = n) (hb : n + 1 < scanBound) (val : ∀ i v, P i v → ∃ t, v = .str (xs.getD i Str.empty) t) :
    ∀ (k i : Nat) (s : Shared), n - i = k → i ≤ n → St i s → s.heap.SetOf (PySem.strKind prog w) S (fun y => (met (xs.take i)).any (· == y)) (met (xs.take i)).length →
      (∀ s', Moved (S :: wr) G s s' → s'.heap.SetOf (PySem.strKind prog w) S (fun y => (met xs).any (· == y)) (met xs).length → R (.ok (.ret .none)) s') →
      codeAny (model prog w) A (.builtin "set.update.loop" ⟨[.ref S, .ref I], []⟩) R s
  | 0, i, s, hk, hi, st, hS, fin => by
    obtain rfl : i = n := by omega
    refine codeAny_builtin PyProof.Rows.F.entry_set_update_loop ?_
    rw [Around.under_plainId PyProof.Rows.F.plain_set_update_loop _]
    show wpAny _ A.in1 (pyNext (.ref I) >>= _) _ _ s
    refine wpAny_bind (W.done s _ _ st fun s' hm => ?_)
    show wpAny _ A.in1 (ret Value.none) _ _ s'
    rw [List.take_of_length_le (Nat.le_of_eq hn)] at hS
    refine wpAny_pure (fin s' (hm.mono fun b hb => List.mem_cons_of_mem _ hb) ?_)
    obtain ⟨o, es, ep, t, ho, more⟩ := hS
    exact ⟨o, es, ep, t, hm.heap S _ (fun z => out (W.sub _ z)) ho, more⟩
  | k + 1, i, s, hk, hi, st, hS, fin => by
    have lt : i < n := by omega
    have ltx : i < xs.length := by omega
    refine codeAny_builtin PyProof.Rows.F.entry_set_update_loop ?_
    rw [Around.under_plainId PyProof.Rows.F.plain_set_update_loop _]
    show wpAny _ A.in1 (pyNext (.ref I) >>= _) _ _ s
    refine wpAny_bind (W.item i s _ _ lt st fun v s' hP st' hm => ?_)
    obtain ⟨t, rfl⟩ := val i v hP
    have ex : xs.getD i Str.empty = xs[i] := by
      rw [List.getD_eq_getElem?_getD, List.getElem?_eq_getElem ltx] <;> rfl
    rw [ex]
    have hS' : s'.heap.SetOf (PySem.strKind prog w) S (fun y => (met (xs.take i)).any (· == y)) (met (xs.take i)).length := by
      obtain ⟨o, es, ep, tb, ho, more⟩ := hS
      exact ⟨o, es, ep, tb, hm.heap S _ (fun z => out (W.sub _ z)) ho, more⟩
    show wpAny _ A.in1 (holding [Value.str xs[i] t] (setAdd S (.str xs[i] t)) >>= _) _ _ s'
    refine wpAny_bind (wpAny_holding ?_)
    unfold setAdd
    refine wpAny_holding ?_
    refine wpAny_bind ((PySem.strKind prog w).pyHash (k := xs[i]) (strKind_is _ _ _ _) ?_)
    have room : (met (xs.take i)).length + 1 < scanBound := by
      have h1 := met_le (xs.take i)
      rw [List.length_take] at h1
      omega
    refine wpAny_setAddHashed_of (knd := PySem.strKind prog w) (s := { s' with toks := s'.toks + 1 }) (strKind_is _ _ _ _) rfl hS' room fun h' sb new => ?_
    have next : h'.SetOf (PySem.strKind prog w) S (fun y => (met (xs.take (i + 1))).any (· == y)) (met (xs.take (i + 1))).length := by
      refine SetOf_congr new (fun y => ?_) ?_
      · rw [met_take ltx]
        by_cases q : (met (xs.take i)).any (· == xs[i]) = true
        · rw [if_pos q]
          by_cases e : y = xs[i]
          · subst e
            rw [q]
            rfl
          · rw [decide_eq_false e, Bool.or_false]
        · rw [if_neg q, List.any_append]
          congr 1
          rw [List.any_cons, List.any_nil, Bool.or_false]
          by_cases e : y = xs[i]
          · subst e
            rw [beq_self_eq_true, decide_eq_true rfl]
          · rw [decide_eq_false e]
            exact (beq_eq_false_iff_ne.mpr fun z => e z.symm).symm
      · rw [met_take ltx]
        by_cases q : (met (xs.take i)).any (· == xs[i]) = true
        · rw [if_pos q, if_pos q]
        · rw [if_neg q, if_neg q, List.length_append] <;> rfl
    refine wpAny_pure ⟨plainId_quiet PyProof.Rows.F.plain_set_update_loop _, set_loop W S out xs hn hb val k (i + 1) _ (by omega) lt (W.frame _ s' _ _ st' (Nat.le_succ _) fun b hb' o e => ?_) next fun s'' hm' hS'' => ?_⟩
    · rw [sb.2 b fun z => out (z ▸ hb')]
      exact e
    · refine fin s'' (Moved.trans W.gtrans ((hm.mono fun b hb' => List.mem_cons_of_mem _ hb').then_heap (Nat.le_succ _) fun b o hb' e => ?_) hm') hS''
      rw [sb.2 b fun z => hb' (z ▸ List.mem_cons_self)]
      exact e
end
section
variable {prog : Program} {w : World} {A : Around} {E : Value → Shared → Prop} {s : Shared}
/-- the empty set object as it is made -/
abbrev emptySet (led : Bool) : Obj := { cls := .type "set", dict := none, data := .set #[] 0 (.fresh 0 0 led) }
set_option maxHeartbeats 3200000 in
theorem call_set_txt {l : Addr} {items : Array Value} {xs : List Str} {Q : Value → Shared → Prop} (hh : A.handled = none) (hl : s.heap.IsTuple l items) (hi : PyProof.Rows.StrsAre items.toList xs) (hb : xs.length + 1 < scanBound)
    (h : ∀ (h' : Heap) (tk : Nat), h'.SetOf (PySem.strKind prog w) s.heap.objs.size (fun y => (met xs).any (· == y)) (met xs).length →
      (∀ b o, b < s.heap.objs.size → s.heap.get? b = some o → h'.get? b = some o) → Q (.ref s.heap.objs.size) { s with heap := h', toks := tk }) :
    wpAny (model prog w) A (call (.type "set") [.ref l]) Q E s := by
  obtain ⟨c, tl, hmro⟩ := PySem.F.called_set.mro
  have hmade := PySem.F.called_set.made
  have hsub := PySem.F.called_set.sub
  refine wpAny_call (codeAny_of_tree ?_)
  show wpAny _ _ (callAny (.type "set") _) _ _ _
  refine wpAny_pure ⟨Code.quiet_builtin _ (by decide +kernel), codeAny_builtin PySem.F.entry_type_call ?_⟩
  rw [Around.under_plain (weight_type_call_type "set" [.ref l] []) rfl]
  have h1 := PySem.F.called_set.notType
  have h2 := PySem.F.called_set.canCreate
  have hct := PySem.F.typeCall_set_1 (.ref l)
  repeat (any_goals (first | assumption | wp_step))
  refine codeAny_mono (code_set_new_1 (.ref l) (E := E) (Q₁ := fun obj s₁ => ∃ led : Bool, obj = .ref s.heap.objs.size ∧ s₁ = { s with heap := s.heap.push (emptySet led) }) fun led => ⟨led, rfl, rfl⟩) fun r s₁ hr => ?_
  cases r with
  | error e => exact hr
  | ok fl =>
    cases fl with
    | next => exact hr.elim
    | brk => exact hr.elim
    | cont => exact hr.elim
    | ret obj =>
    obtain ⟨led, rfl, rfl⟩ := hr
    have hS : (s.heap.push (emptySet led)).get? s.heap.objs.size = some (emptySet led) := Heap.get?_push_size _ rfl
    have hT : Shared.TypeIs { s with heap := s.heap.push (emptySet led) } (.ref s.heap.objs.size) "set" := ⟨_, hS, rfl⟩
    have hli := PySem.F.called_set.init.lookup
    have hbi := PySem.F.called_set.init.bind (.ref s.heap.objs.size)
    repeat (any_goals (first | assumption | wp_step))
    refine codeAny_mono (codeAny_call_builtin (R := wants (fun r s₂ => r = .none ∧ ∃ h' tk, s₂ = { s with heap := h', toks := tk } ∧ h'.SetOf (PySem.strKind prog w) s.heap.objs.size (fun y => (met xs).any (· == y)) (met xs).length ∧
      (∀ b o, b < s.heap.objs.size → s.heap.get? b = some o → h'.get? b = some o)) E) PySem.F.called_set.init.plain PySem.F.entry_set_init (check_set_init_1 hT ?_)) fun r₂ s₂ hr₂ => ?_
    · obtain ⟨⟨ocls, odict, odata, oslots⟩, hol, hcl, nl, hdl⟩ := hl
      simp only at hcl hdl
      subst hcl; subst hdl
      have hol' : (s.heap.push (emptySet led)).get? l = some { cls := .type "tuple", dict := odict, data := .seq items nl, slots := oslots } := Heap.get?_push_of_some _ hol
      have hsls := PySem.F.sub_tuple_set
      have hslf := PySem.F.sub_tuple_frozenset
      have hne : (Value.type "tuple" == Value.type "dict") = false := by decide
      have hl1 : (s.heap.push (emptySet led)).IsTuple l items := ⟨_, hol', rfl, nl, rfl⟩
      unfold Builtin.«set.__init__» noKeywords Builtin.Frozenset.updateFrom
      generalize hPI : pyIter = PI
      wp_walk
      subst hPI
      refine wpAny_pyIter_tuple hl1 ?_
      refine wpAny_bind (wpAny_runValue ?_)
      have hlS : l < s.heap.objs.size := Heap.lt_size hol
      have hh3 : A.in1.in1.in1.handled = none := by simp [hh]
      have hneI : l ≠ (s.heap.push (emptySet led)).objs.size := by
        rw [Heap.size_push]
        exact Nat.ne_of_lt (Nat.lt_succ_of_lt hlS)
      have out : s.heap.objs.size ∉ [(s.heap.push (emptySet led)).objs.size, l] := by
        rw [Heap.size_push]
        simp only [List.mem_cons, List.not_mem_nil, or_false, not_or]
        exact ⟨Nat.ne_of_lt (Nat.lt_succ_self _), Nat.ne_of_gt hlS⟩
      have hsz : xs.length = items.size := by rw [← StrsAre.len_eq hi, Array.length_toList]
      refine set_loop ((Walks.tuple hh3 _ l hneI items).toS) s.heap.objs.size out xs hsz (by omega) (fun i v hv => SS.strs_at hi i v (by rw [Array.getElem?_toList]; exact hv)) (items.size - 0) 0 _ (by omega) (Nat.zero_le _)
        ⟨⟨_, Heap.get?_push_size _ rfl, rfl, rfl⟩, (hl1.push _)⟩ ?h0 fun s' hm hS' => ?_
      case h0 =>
        refine PyProof.Rows.SetOf_congr ((PyProof.Rows.setObjOf_fresh (knd := PySem.strKind prog w) led).setOf (a := s.heap.objs.size) (Heap.get?_push_of_some _ hS) (by unfold scanBound; omega)) (fun _ => rfl) rfl
      obtain ⟨h', g', d', tk', os'⟩ := s'
      obtain rfl : g' = s.gens := hm.gens
      obtain rfl : d' = s.drawn := hm.drawn
      obtain rfl : os' = s.os := hm.os
      show wpAny _ _ _ _ _ _
      refine wpAny_pure ?_
      show wpAny _ _ (ret Value.none) _ _ _
      refine wpAny_pure ⟨rfl, h', tk', rfl, hS', fun b o hb' e => hm.heap b o ?_ (Heap.get?_push_of_some _ (Heap.get?_push_of_some _ e))⟩
      rw [Heap.size_push]
      simp only [List.mem_cons, List.not_mem_nil, or_false, not_or]
      exact ⟨Nat.ne_of_lt hb', Nat.ne_of_lt (Nat.lt_succ_of_lt hb')⟩
    · cases r₂ with
      | error e => exact hr₂
      | ok f2 =>
        cases f2 with
        | next => exact hr₂.elim
        | brk => exact hr₂.elim
        | cont => exact hr₂.elim
        | ret r =>
          obtain ⟨rfl, h', tk, rfl, hS', hk'⟩ := hr₂
          repeat (any_goals (first | assumption | wp_step))
          exact h _ _ hS' hk'
end
end Sy
namespace L2
open PySem PySem.Spec PyProof.Rows
section
variable {X : Cx}
/-- len(set(t)), t a tuple of texts: how many there are, each once -/
def tLenTxt (K : PySem.W.Frag) (ta : TE) : TE := fun σ H Q => ta σ H fun x H1 => ∃ (l : Addr) (xs : List Str), x = V.ref l ∧ SqT K H1 l (xs.map V.str) ∧ xs.length ≤ 1000 ∧ Q (.int ((Sy.met xs).length : Nat)) H1
theorem pe_lenTxt {a : Expr} {ta : TE} {p p2 q pos : Pos} (hc : X.calm = true) (hg : Gl X "len") (hm : X.mg "len" = none) (hg2 : Gl X "set") (hm2 : X.mg "set" = none) (ha : PE X a ta)
    (na : starEach [a] X.env = (false, eval a X.env) :: starEach [] X.env := by rfl) : PE X (.Call (.Name "len" p) [.Call (.Name "set" p2) [a] [] q] [] pos) (tLenTxt X.K ta) := by
  refine ⟨fun pins s σ H Q I h => ?_⟩
  refine Call_ (ld_blt I hg hm PySem.boot_len ?_)
  refine PyProof.Rows.callWith_builtin1 (PyProof.Rows.args_cons ?_ rfl) rfl rfl
  refine Call_ (ld_blt I hg2 hm2 PyProof.Rows.boot_set ?_)
  refine PyProof.Rows.callWith_type1 (PyProof.Rows.args_cons (thn (ha.run pins s σ H _ I h) fun v s1 ⟨x, H1, I1, r1, q1⟩ => PyProof.Rows.args_nil ?_) na) na rfl
  obtain ⟨l, xs, rfl, hq, hl, q1⟩ := q1
  cases r1
  obtain ⟨its, r, pl, hz⟩ := I1.tuple hq
  have hle := Sy.met_le xs
  refine Sy.call_set_txt (I1.ok.hd hc) pl (by simpa using strsAre_of r) (by unfold scanBound; omega) fun h' tk hS hk => ?_
  refine PyProof.Rows.args_nil ?_
  obtain ⟨o, es, ep, t, ho, hex, hd, _, _, _, hf, hn⟩ := hS
  have I2 : Inv X pins σ H1 { s1 with heap := h', toks := tk } := I1.kept fun b o e => hk b o (Heap.lt_size e) e
  exact call_len_set ho hex hd hf (by rw [hn] <;> omega) ⟨.int ((Sy.met xs).length : Nat), H1, I2.tok _, ⟨_, by rw [hn]⟩, q1⟩
/-- a text times a number -/
theorem op_mul_txt : OpR X (binaryOp .Mult) (fun x y H Q => ∃ z n, x = .str z ∧ y = .int n ∧ z.length ≤ 16 ∧ 0 ≤ n ∧ n ≤ 1000 ∧ Q (.str (Txt.mul z n)) H) := by
  intro pins s σ H x y v u Q I rx ry h
  obtain ⟨z, n, rfl, rfl, h1, h2, h3, q⟩ := h
  obtain ⟨t, rfl⟩ := rx
  obtain ⟨t', rfl⟩ := ry
  exact PySem.W.KXi.mul rfl h1 (by omega) (by omega) fun t' k _ _ => ⟨.str (Txt.mul z n), H, I.tok _, ⟨_, rfl⟩, q⟩
end
end L2
namespace Sy
open PySem PySem.Spec PyProof.Rows L2
/-! ### all that was tracked stands as it was, but what stands at a -/
def Keep (a : Addr) (H H' : Hp) : Prop := ∀ b o, b ≠ a → H b = some o → H' b = some o
theorem Keep.refl {a : Addr} (H : Hp) : Keep a H H := fun _ _ _ e => e
theorem Keep.trans {a : Addr} {H H1 H2 : Hp} (k : Keep a H H1) (l : Keep a H1 H2) : Keep a H H2 := fun b o n e => l b o n (k b o n e)
theorem Keep.of_same {a : Addr} {H H' : Hp} (s : Same H H') : Keep a H H' := fun b o _ e => s b o e
theorem Keep.new {a p : Addr} {o : HO} {H H1 : Hp} (k : Keep a H H1) (n : H1 p = none) : Keep a H (upd H1 p o) := fun b u nb e => by
  rw [upd_ne (ne_of_none (k b u nb e) n)]
  exact k b u nb e
theorem Keep.put {a : Addr} {o : HO} {H H1 : Hp} (k : Keep a H H1) : Keep a H (upd H1 a o) := fun b u nb e => by
  rw [upd_ne nb]
  exact k b u nb e
theorem Same.new {p : Addr} {o : HO} {H H1 : Hp} (k : Same H H1) (n : H1 p = none) : Same H (upd H1 p o) := fun b u e => by
  rw [upd_ne (ne_of_none (k b u e) n)]
  exact k b u e
theorem Same.tup {K : PySem.W.Frag} {H H' : Hp} {b : Addr} {xs : List V} (k : Same H H') (h : SqT K H b xs) : SqT K H' b xs := by
  rcases h with (h | ⟨o, h⟩) | h
  · exact .inl (.inl (k _ _ h))
  · exact .inl (.inr ⟨o, k _ _ h⟩)
  · exact .inr h
/-- what is tracked elsewhere is read as before -/
theorem Keep.lst {a b : Addr} {xs : List V} {H H' : Hp} (k : Keep a H H') (n : b ≠ a) (h : H b = some (.lst xs)) : H' b = some (.lst xs) := k b _ n h
theorem Keep.tup {K : PySem.W.Frag} {a b : Addr} {xs ys : List V} {H H' : Hp} (k : Keep a H H') (hs : H a = some (.lst ys)) (h : SqT K H b xs) : SqT K H' b xs := by
  rcases h with (h | ⟨o, h⟩) | h
  · exact .inl (.inl (k _ _ (ne_of h hs (by intro z; cases z)) h))
  · exact .inl (.inr ⟨o, k _ _ (ne_of h hs (by intro z; cases z)) h⟩)
  · exact .inr h
end Sy
set_option autoImplicit false
/-! Pure words 9: names of the module, sets of texts counted. -/
namespace SyP
open PySem PySem.Spec PyProof.Rows L2 Sy
variable {K : PySem.W.Frag} {sa : SA} {H H' Hm : Hp} {G : Gh} {ρ ρ' : En} {ts ts' : Ts} {σ σ' : L2.St} {C : CC} {X : Cx} {a b c : Expr} {pos p2 : Pos} {wa wb wc w : WE} {e : Expr} {es : List Expr} {wr : WA}
/-- numbers and texts of the module -/
def CI (mg : Str → Option Value) (x : Str) (i : Int) : Prop := ∃ t, mg x = some (.int i t)
def CS (mg : Str → Option Value) (x : Str) (i : Str) : Prop := ∃ t, mg x = some (.str i t)
theorem qe_gI {x : Str} {i : Int} (h : CI X.mg x i) (hg : Gl X x) (hd : (x == ("__debug__" : Str)) = false := by decide) : QE X C (.Name x pos) (wC (.int i)) := by
  obtain ⟨t, h⟩ := h
  exact qe_globSc (v := .int i) hg h ⟨t, rfl⟩ rfl hd
theorem qe_gS {x : Str} {i : Str} (h : CS X.mg x i) (hg : Gl X x) (hd : (x == ("__debug__" : Str)) = false := by decide) : QE X C (.Name x pos) (wC (.str i)) := by
  obtain ⟨t, h⟩ := h
  exact qe_globSc (v := .str i) hg h ⟨t, rfl⟩ rfl hd
/-- the built-in names that the module leaves as they are -/
def bltNames : List Str := ["isinstance", "str", "len", "all", "any", "tuple", "set", "list", "abs", "int", "bool", "range", "sum", "reversed", "zip", "enumerate", "min", "max", "sorted"]
def NoB (mg : Str → Option Value) : Prop := ∀ x ∈ bltNames, mg x = none
theorem u65 {k : Nat} {A : Around} (r : Room k A) : A.units + 65 < cLine := by have := r.un; omega
/-- len(set(t)), t a tuple of texts -/
def wLenSet (w : WE) : WE := fun ρ Q E => w ρ (fun r ρ' => ∃ xs : List Str, look ρ' r = some (.tup (xs.map PV.str)) ∧ xs.length ≤ 1000 ∧ Q (.fz (.int ((Sy.met xs).length : Nat))) ρ') E
theorem qe_lenSet {p q pos : Pos} (hk : X.K = C.K) (hc : X.calm = true) (hg : Gl X "len") (hm : X.mg "len" = none) (hg2 : Gl X "set") (hm2 : X.mg "set" = none) (ha : QE X C a wa)
    (na : starEach [a] X.env = (false, eval a X.env) :: starEach [] X.env := by rfl) : QE X C (.Call (.Name "len" p) [.Call (.Name "set" p2) [a] [] q] [] pos) (wLenSet wa) :=
  PE.imp (pe_lenTxt hc hg hm hg2 hm2 ha na) fun σ H Q ⟨G, ρ, ts, Q', E', S, w, q, ee⟩ => ⟨G, ρ, ts, _, E', S, w, fun r ρ' ⟨xs, e, hz, w⟩ v H' S' => by
    obtain ⟨l, vs, rfl, h1, h2⟩ := S'.top List.mem_cons_self e
    rw [h2.strs] at h1
    exact ⟨l, xs, rfl, hk ▸ h1, hz, q _ _ w _ _ (S'.pop.pushSc rfl)⟩, ee⟩
end SyP
set_option autoImplicit false
/-! Pure words 10: the least text of a list; the law itself. -/
namespace SyP
open PySem PySem.Spec PyProof.Rows L2 Sy
variable {K : PySem.W.Frag} {sa : SA} {H H' Hm : Hp} {G : Gh} {ρ ρ' : En} {ts ts' : Ts} {σ σ' : L2.St} {C : CC} {X : Cx} {a b c : Expr} {pos p2 : Pos} {wa wb wc w : WE} {e : Expr} {es : List Expr} {wr : WA}
/-! ### min of a list of texts -/
section
variable {prog : Program} {w : World} {A : Around} {E : Value → Shared → Prop} {s : Shared}
theorem cmp_strs {P : Nat → Value → Prop} (val : Nat → Str) (hv : ∀ i v, P i v → ∃ t, v = .str (val i) t) : CmpOf prog w A .Lt P (fun i j => decide ((val i).cps.toList < (val j).cps.toList)) := by
  intro i j vi vj s Q E hi hj h
  obtain ⟨t, rfl⟩ := hv i vi hi
  obtain ⟨u, rfl⟩ := hv j vj hj
  exact richCompare_gives (op := .Lt) (typeIs_str s _ t) (typeIs_str s _ u) F.slot_str_lt F.entry_str_lt (F.args_str_lt_2 _ _) (gives_str_lt _ _ t u) (fun x => nomatch x) h
theorem lex_not_lt {x y : List Nat} : ¬ x < y ↔ y ≤ x := List.not_lt
theorem best_strs (val : Nat → Str) : ∀ k, argBest (fun i j => decide ((val i).cps.toList < (val j).cps.toList)) k ≤ k ∧ ∀ j, j ≤ k → ¬ (val j).cps.toList < (val (argBest (fun i j => decide ((val i).cps.toList < (val j).cps.toList)) k)).cps.toList
  | 0 => ⟨Nat.le_refl _, fun j hj => by
    have : j = 0 := by omega
    subst this
    exact List.lt_irrefl _⟩
  | k + 1 => by
    obtain ⟨h1, h2⟩ := best_strs val k
    unfold argBest
    by_cases h : (val (k + 1)).cps.toList < (val (argBest (fun i j => decide ((val i).cps.toList < (val j).cps.toList)) k)).cps.toList
    · rw [if_pos (decide_eq_true h)]
      refine ⟨Nat.le_refl _, fun j hj z => ?_⟩
      by_cases e : j = k + 1
      · subst e
        exact List.lt_irrefl _ z
      · exact h2 j (by omega) (List.lt_trans z h)
    · rw [if_neg (by simpa using h)]
      refine ⟨by omega, fun j hj z => ?_⟩
      by_cases e : j = k + 1
      · subst e
        exact h z
      · exact h2 j (by omega) z
end
def rMinS (K : PySem.W.Frag) : List V → Hp → VK → Prop := fun vs H Q => ∃ (a : Addr) (xs : List Str), vs = [V.ref a] ∧ SqL K H a (xs.map V.str) ∧ 0 < xs.length ∧ ∀ m, m ∈ xs → (∀ y, y ∈ xs → ¬ y.cps.toList < m.cps.toList) → Q (.str m) H
theorem cr_minS (hc : X.calm = true) : CallR X (.builtin "min") (rMinS X.K) := by
  intro pins s σ H vs us Q I r h
  obtain ⟨a, xs, rfl, hs, hz, q⟩ := h
  obtain ⟨its, rv, p, hl⟩ := I.list hs
  have hn : its.length = xs.length := by
    have := rv.length
    rw [List.length_map] at this
    omega
  obtain ⟨u, rfl, rfl⟩ : ∃ u, us = [u] ∧ u = Value.ref a := by
    cases r with
    | cons r1 r2 =>
      cases r2
      exact ⟨_, rfl, r1⟩
  have vals : ∀ (i : Nat) (v : Value), its.toArray[i]? = some v → ∃ t, v = Value.str (xs.getD i "") t := fun i v e => by
    have e : its[i]? = some v := by simpa using e
    have hi := (List.getElem?_eq_some_iff.mp e).1
    have hx : (xs.map V.str)[i]? = some (V.str xs[i]) := by rw [List.getElem?_map, List.getElem?_eq_getElem (by omega)]; rfl
    obtain ⟨u, e1, e2⟩ := rv.get hx
    rw [e] at e1
    cases e1
    obtain ⟨t, rfl⟩ := e2
    exact ⟨t, by rw [List.getD_eq_getElem?_getD, List.getElem?_eq_getElem (by omega)]; rfl⟩
  refine call_min_walk (iter_anyList p.isList fun s₂ e st hfp _ => ?_)
  subst e
  obtain ⟨b1, b2⟩ := best_strs (fun i => xs.getD i "") (its.toArray.size - 1)
  refine ⟨_, _, _, _, _, _, _, rfl, Walks.list (A := X.A.in1) (I.ok.hd hc) _ a (by assumption) its.toArray, st, hfp, by simp; omega, cmp_strs (fun i => xs.getD i "") vals, fun v h' tk hP hk => ?_⟩
  obtain ⟨t, rfl⟩ := vals _ _ hP
  have kept := PySem.old_kept hk
  have hsz : its.toArray.size = xs.length := by simp [hn]
  refine ⟨V.str _, H, I.kept (h' := h') (t' := tk) kept, ⟨t, rfl⟩, q _ ?_ fun y hy => ?_⟩
  · rw [List.getD_eq_getElem?_getD, List.getElem?_eq_getElem (by omega)]
    exact List.getElem_mem _
  · obtain ⟨j, hj, rfl⟩ := List.mem_iff_getElem.mp hy
    have := b2 j (by omega)
    rw [List.getD_eq_getElem?_getD, List.getElem?_eq_getElem hj] at this
    exact this
/-- the text of a list of signs -/
def lt (l : List Nat) : Str := ⟨l.toArray⟩
def wMinS : WB := fun ρ rs Q => ∃ (ra : AV) (ls : List (List Nat)), rs = [ra] ∧ look ρ ra = some (.lst (ls.map fun l => PV.str (lt l))) ∧ 0 < ls.length ∧ ∀ m, m ∈ ls → (∀ y, y ∈ ls → m ≤ y) → Q (.fz (.str (lt m))) ρ
theorem cp_minS : CaP C wMinS (rMinS C.K) := CaP.one (fun _ _ _ ⟨a, _, e, _⟩ => ⟨a, e⟩) fun G ρ ts σ H ra v Q' Q S ⟨_, ls, e0, e, hz, w⟩ q => by
  cases e0
  obtain ⟨a, vs, rfl, h1, h2⟩ := S.top List.mem_cons_self e
  have em : (ls.map fun l => PV.str (lt l)) = (ls.map lt).map PV.str := by
    rw [List.map_map]
    rfl
  rw [em] at h2
  rw [h2.strs] at h1
  refine ⟨a, ls.map lt, rfl, SqL.of h1, by rw [List.length_map]; exact hz, fun m h1 h2 => ?_⟩
  obtain ⟨l, hl, rfl⟩ := List.mem_map.mp h1
  exact q _ _ (w l hl fun y hy => List.not_lt.mp (h2 (lt y) (List.mem_map_of_mem hy))) _ _ (S.pop.pushSc rfl)
/-! ### the law -/
def spLaw (K : PySem.W.Frag) : Sp := fun vs H Q _ => ∃ (a : Addr) (ns : List Int), vs = [.ref a] ∧ SqL K H a (ns.map V.int) ∧ ns.length ≤ 63 ∧ ∀ H', Q (.bl true) H'
def spStream (K : PySem.W.Frag) : Sp := fun vs H Q _ => ∃ (a : Addr) (ns : List Int), vs = [.ref a] ∧ SqL K H a (ns.map V.int) ∧ ns.length ≤ 63 ∧ ∀ l s H', Same H H' → H s = none → H l = none → Strm l H' s → Q (.ref s) H'
/-- what the law's body behind its first row must do -/
def LawOk (n : Nat) (ws : WS) : Prop := ws ⟨fun _ => False, fun r => r = .fz (.bl true), fun _ => False, fun _ => False, fun _ => False⟩ (none :: some (.fz .strm) :: List.replicate (n - 2) none)
theorem rep_strm {l s : Addr} (h : sa = some (l, s)) : Rep K sa H .strm (.ref s) := by
  unfold Rep
  exact ⟨l, s, h, rfl⟩
section
variable {P : Program} {w : World} {mg : Str → Option Value} {base : Heap} {x qual : Str} {st : Stmt} {f : Addr} {fd : FuncData} {N : List Str} {k : Nat} {ws : WS}
theorem law_ok (F : Fun K x qual st f fd) (S : FnScope N ["script"] (defScope st)) (hn : 2 ≤ N.length)
    (hbody : ∀ (cdv : Value) (A : Around) (outer : List Env) (s : Shared) (H : Hp) (E : XK), Room k (A.deeper (envOfC qual (defScope st) s.heap.objs.size f cdv)) →
      ∃ te s1 rest, defBody st = s1 :: rest ∧ PS (cxOf (L2.CX P w) P w K mg base N qual (defScope st) f cdv A outer s H E) s1 (tAsg te (gName 1)) ∧
        (∀ σ H Q, (∃ v, σ[0]? = some (some v) ∧ spStream K [v] H Q (fun _ _ _ => False)) → te σ H Q) ∧ QSs (cxOf (L2.CX P w) P w K mg base N qual (defScope st) f cdv A outer s H E) ⟨K, mg, E⟩ rest ws) (hw : LawOk N.length ws) :
    FnOk P w K mg base (L2.CX P w) (k + 1) f fd ["script"] (spLaw K) := by
  refine F.okX S (fun vs H Q E h => ?_) fun cdv A outer s H vs Q E hr h => ?_
  · obtain ⟨a, ns, rfl, _⟩ := h
    rfl
  obtain ⟨a, ns, rfl, hS, hl, q⟩ := h
  obtain ⟨te, s1, rest, eb, h1, h2, h3⟩ := hbody cdv A outer s H E hr
  rw [eb]
  refine ⟨_, pss_cons h1 h3, ?_⟩
  refine h2 _ _ _ ⟨.ref a, rfl, a, ns, rfl, hS, hl, fun l sx H' sm hs hl' hst => ?_⟩
  have eN : ∃ m, N.length = m + 2 := ⟨N.length - 2, by omega⟩
  obtain ⟨m, em⟩ := eN
  have e0 : (L2.start N [V.ref a]).set 1 (some (V.ref sx)) = some (.ref a) :: some (.ref sx) :: List.replicate m none := by
    unfold L2.start
    rw [em]
    rfl
  show tPS _ ws _ ((L2.start N [V.ref a]).set 1 (some (V.ref sx))) H'
  rw [e0]
  unfold LawOk at hw
  rw [em] at hw
  have no_ow : ∀ {i : Nat} {e : AV × V} {b : Addr}, SlAt (none :: some (.fz .strm) :: List.replicate m none) (some (.ref a) :: some (.ref sx) :: List.replicate m none) i e → OwAt e b → False := fun {i e b} hs ho => by
    obtain ⟨h1, _⟩ := hs
    obtain ⟨⟨p, hp⟩, _⟩ := ho
    rw [hp] at h1
    match i, h1 with
    | 0, h1 => cases h1
    | 1, h1 => cases h1
    | i + 2, h1 =>
      have h3 : (List.replicate m (none : Option AV))[i]? = some (some (AV.ow p)) := by simpa using h1
      have h4 := List.eq_of_mem_replicate (List.mem_of_getElem? h3)
      cases h4
  have no : ∀ {b : Addr}, ¬ Owns (none :: some (.fz .strm) :: List.replicate m none) [] (some (.ref a) :: some (.ref sx) :: List.replicate m none) b := fun {b} z => by
    rcases z with ⟨i, e, hs, ho⟩ | ⟨e, he, _⟩
    · exact no_ow hs ho
    · cases he
  obtain ⟨ne, xs, y, kk, g1, g2, g3, g4⟩ := id hst
  refine ⟨⟨some (l, sx), H', fun b => b = sx⟩, _, [], _, FzT.nil, ⟨by simp, Fra.refl, fun l2 s2 e => ?_, fun l2 s2 e => ?_, fun l2 s2 e => ?_, fun b hb => ?_, fun b hb => absurd hb no, fun i r e => ?_, fun e he => (nomatch he), fun i j e f b hs _ ho _ => (no_ow hs ho).elim, fun i e f b hs _ ho _ => no_ow hs ho, .nil, fun e he => (nomatch he)⟩, hw, ?_, ?_, ?_, ?_, ?_⟩
  · cases e
    exact hst
  · cases e
    rfl
  · cases e
    show H' l ≠ none
    rw [g1]
    exact fun z => nomatch z
  · have hb : b = sx := hb
    subst hb
    show H' b ≠ none
    rw [g3]
    exact fun z => nomatch z
  · match i, e with
    | 0, e => cases e
    | 1, e =>
      cases e
      refine ⟨.ref sx, rfl, ?_⟩
      unfold Ent
      exact rep_strm rfl
    | i + 2, e =>
      have h3 : (List.replicate m (none : Option AV))[i]? = some (some r) := by simpa using e
      have h4 := List.eq_of_mem_replicate (List.mem_of_getElem? h3)
      cases h4
  · exact fun ρ w => w.elim
  · intro r w v H2 h
    subst w
    obtain ⟨_, _, h⟩ := h
    have h : v = .bl true := by unfold Rep at h; exact h
    rw [h]
    exact q H2
  · exact fun ρ w => w.elim
  · exact fun ρ w => w.elim
  · exact fun e w => w.elim
end
end SyP
set_option autoImplicit false
/-! Pure words: loops and comprehensions by an invariant, by a map. -/
namespace SyP
open PySem PySem.Spec PyProof.Rows L2 Sy
/-- a for: I by the turns done; N stands for what comes behind the turn -/
theorem wLoop_by {wt : WTg} {wb : WS} {P : PD} {items : List PV} (I : Nat → En → Prop) {ρ : En} (h0 : I 0 ρ)
    (hs : ∀ i x ρ (N : En → Prop), items[i]? = some x → I i ρ → (∀ ρ', I (i + 1) ρ' → N ρ') → wt x ρ fun ρ' => wb { nx := N, rt := P.rt, bk := P.nx, ct := N, ex := P.ex } ρ') (hd : ∀ ρ, I items.length ρ → P.nx ρ) : wLoop wt wb P items ρ := by
  have key : ∀ (n i : Nat) (ρ : En), i + n = items.length → I i ρ → wLoop wt wb P (items.drop i) ρ := by
    intro n
    induction n with
    | zero =>
      intro i ρ e h
      have e : i = items.length := by omega
      subst e
      rw [List.drop_length]
      exact hd ρ h
    | succ n ih =>
      intro i ρ e h
      have hi : i < items.length := by omega
      rw [List.drop_eq_getElem_cons hi]
      exact hs i _ ρ _ (List.getElem?_eq_getElem hi) h fun ρ' h' => ih (i + 1) ρ' (by omega) h'
  exact key items.length 0 ρ (by omega) h0
/-- a comprehension whose turns are known -/
theorem wColl_map {turn : PV → (List PV → Prop) → Prop} {Q : List PV → Prop} (g : PV → List PV) : ∀ {items acc : List PV}, (∀ x ∈ items, ∀ Kk : List PV → Prop, Kk (g x) → turn x Kk) → Q (acc ++ items.flatMap g) → wColl turn items acc Q
  | [], acc, _, q => by
    rw [List.flatMap_nil, List.append_nil] at q
    exact q
  | x :: xs, acc, h, q => h x List.mem_cons_self _ (wColl_map g (fun y hy => h y (List.mem_cons_of_mem _ hy)) (by rw [List.flatMap_cons, ← List.append_assoc] at q; exact q))
/-- .. over a list that is the image of another one -/
theorem wColl_fm {α : Type} {turn : PV → (List PV → Prop) → Prop} {Q : List PV → Prop} (f : α → PV) (g : α → List PV) : ∀ {l : List α} {acc : List PV}, (∀ x ∈ l, ∀ Kk : List PV → Prop, Kk (g x) → turn (f x) Kk) → Q (acc ++ l.flatMap g) → wColl turn (l.map f) acc Q
  | [], acc, _, q => by
    rw [List.flatMap_nil, List.append_nil] at q
    exact q
  | x :: xs, acc, h, q => h x List.mem_cons_self _ (wColl_fm f g (fun y hy => h y (List.mem_cons_of_mem _ hy)) (by rw [List.flatMap_cons, ← List.append_assoc] at q; exact q))
theorem flatMap_one {α β : Type} (h : α → β) (l : List α) : l.flatMap (fun x => [h x]) = l.map h := by
  induction l with
  | nil => rfl
  | cons x l ih => rw [List.flatMap_cons, ih]; rfl
theorem flatMap_if {α β : Type} (c : α → Bool) (h : α → β) (l : List α) : l.flatMap (fun x => if c x = true then [h x] else []) = (l.filter c).map h := by
  induction l with
  | nil => rfl
  | cons x l ih =>
    rw [List.flatMap_cons, ih, List.filter_cons]
    cases c x <;> rfl
/-- what is neither a dict nor the stream -/
def okV : PV → Prop
  | .dic _ _ => False
  | .strm => False
  | _ => True
theorem eqp_int (i j : Int) : eqp (.int i) (.int j) = decide (i = j) := by
  unfold eqp pd PyData.eqv
  rw [Bool.eq_iff_iff]
  simp
theorem eqp_str (x y : Str) : eqp (.str x) (.str y) = decide (x = y) := by
  unfold eqp pd PyData.eqv
  rw [Bool.eq_iff_iff]
  simp
theorem fl_int {n : Nat} {i : Int} : Fl n (.int i) = True := by cases n <;> rfl
theorem fl_bl {n : Nat} {i : Bool} : Fl n (.bl i) = True := by cases n <;> rfl
theorem fl_non {n : Nat} : Fl n .non = True := by cases n <;> rfl
theorem fl_str {n : Nat} {x : Str} : Fl n (.str x) = (PyData.strOk x = true) := by cases n <;> rfl
end SyP
set_option autoImplicit false
/-! Pure words: texts as lists of signs; cuts of lists. -/
namespace SyP
open PySem PySem.Spec PyProof.Rows L2 Sy
abbrev pS (l : List Nat) : PV := .str (lt l)
theorem lt_app (a b : List Nat) : lt a ++ lt b = lt (a ++ b) := by
  show (⟨a.toArray ++ b.toArray⟩ : Str) = ⟨(a ++ b).toArray⟩
  simp
theorem lt_len (a : List Nat) : (lt a).length = a.length := rfl
theorem lt_cps (a : List Nat) : (lt a).cps.toList = a := rfl
theorem lt_inj {a b : List Nat} : (lt a = lt b) = (a = b) := propext ⟨fun h => by
  have h : (lt a).cps.toList = (lt b).cps.toList := by rw [h]
  exact h, fun h => by rw [h]⟩
theorem lt_of (z : Str) : lt z.cps.toList = z := rfl
theorem signs_lt (a : List Nat) : SyP.signs (lt a) = a.map fun c => .str (lt [c]) := rfl
theorem cutS_lt (a : List Nat) (lo hi : Option Int) : cutS (lt a) lo hi = lt (cutL a lo hi) := rfl
/-- signs that a text may hold -/
def okT (l : List Nat) : Prop := ∀ c ∈ l, c < 1114112
theorem strOk_lt (l : List Nat) : (PyData.strOk (lt l) = true) = okT l := propext (by
  unfold PyData.strOk lt okT
  simp)
section
variable {α : Type} (l : List α)
theorem cutL_to (k : Nat) : cutL l none (some (k : Int)) = l.take k := by
  unfold cutL
  rw [HT.sIx_none, HT.sIx_nat, List.drop_zero, Nat.sub_zero]
  rcases Nat.le_total k l.length with h | h
  · rw [Nat.min_eq_left h]
  · rw [Nat.min_eq_right h, List.take_length, List.take_of_length_le h]
theorem cutL_from (k : Nat) : cutL l (some (k : Int)) none = l.drop k := by
  unfold cutL
  rw [HT.sIx_none, HT.sIx_nat, List.take_of_length_le (by rw [List.length_drop]; omega)]
  rcases Nat.le_total k l.length with h | h
  · rw [Nat.min_eq_left h]
  · rw [Nat.min_eq_right h, List.drop_of_length_le (Nat.le_refl _), List.drop_of_length_le h]
theorem cutL_mid (a b : Nat) : cutL l (some (a : Int)) (some (b : Int)) = (l.take b).drop a := by
  unfold cutL
  rw [HT.sIx_nat, HT.sIx_nat, List.drop_take]
  rcases Nat.le_total a l.length with h | h
  · rw [Nat.min_eq_left h]
    rcases Nat.le_total b l.length with g | g
    · rw [Nat.min_eq_left g]
    · rw [Nat.min_eq_right g, List.take_of_length_le (by rw [List.length_drop]; omega), List.take_of_length_le (by rw [List.length_drop]; omega)]
  · rw [Nat.min_eq_right h, List.drop_of_length_le (Nat.le_refl _), List.drop_of_length_le h, List.take_nil, List.take_nil]
end
theorem exm_same {K : PySem.W.Frag} {C : Addr} (h1 : PySem.W.subIn K (.ref C) (.type "BaseException") = some true) (h2 : PySem.W.isClsIn K C = true) (h3 : PySem.W.typeIn K (.ref C) = some (.type "type")) (h4 : PySem.W.subIn K (.ref C) (.ref C) = some true) : PySem.W.exmOne K (.ref C) (.ref C) = some true := by
  unfold PySem.W.isClsIn at h2
  unfold PySem.W.exmOne PySem.W.kitCls
  simp only [h1, h2, h3, h4, beq_self_eq_true, Bool.and_self, if_true]
end SyP
namespace Sy
open PySem PySem.Spec PyProof.Rows L2 SyP
def wf__law_next : WF := fun qs Q _ => ∃ m : Int, qs = [.strm, .int m] ∧ 0 < m ∧ m < 1073741824 ∧ ∀ d : Nat, (d : Int) < m → Q (.fz (.int d))
def isI : PV → Bool
  | .int _ => true
  | _ => false
def numP (p : PV) (lo hi : Int) : Bool := match p with
  | .int i => decide (lo ≤ i) && decide (i ≤ hi)
  | _ => false
def wb_is_integer : WS :=
  (wRet (wAndV (wIsi "int" (wVar 0)) (wNotV (wIsi "bool" (wVar 0)))))
def wr_is_integer : WF := wDef 1 wb_is_integer

def wf_is_integer : WF := fun qs Q _ => ∃ p, qs = [p] ∧ okV p ∧ Q (.fz (.bl (isI p)))
theorem le_is_integer : ∀ qs Q E, wf_is_integer qs Q E → wr_is_integer qs Q E := by
  rintro qs Q E ⟨p, rfl, h, q⟩
  cases p <;> simp [okV, isI] at h q <;> simp [wDef, wSeq, wSet, wC, wKeep, keepA, wFor, wiRange1, wiRange2, wiRow, rowOf, wCons, wNil, wVar, look, wgN, wgTup, wgCons, wgNil, wAug, wAugAdd, wAugMul, wRet, wRetN, retA, wExpr, wIfS, wNext, wBreak, wCont, wOp, wII, wAdd, wSub, wMul, wMod, wDiv, wNeg, wEq, wIn, wIsN, wCmp, cmpI, cmpS, wChain, wB, wTru, truth, szOk, wAnd, wOr, wNot, wAndV, wOrV, wNotV, wIf, wTup, wLst, fzAll, fz1, wIx, wSl, wNo, wYes, SyP.part, wCB, wLen, lenP, wListOf, wTupOf, itemsP, wBools, wSum, wMax, wMin, wMinS, wM2, wInt, intOf, wIsi, isTy, wCall, wN, wM1, kAppend, kExtend, kPopAt, wPop, wAsg, wLc, wTrue, wTurn, wipeE, wLc2, wTurn2, wRaise, wSetIx, wStarts, wEnds, wStr2, wJoin, wSIndex, wLenSet, frzS, fl_int, fl_bl, fl_non, fl_str, eqp_int, eqp_str, lt_len, lt_app, lt_inj, cutS_lt, cutL_to, cutL_from, cutL_mid, rgI_length, Int.natCast_inj, sizeLine_eq, strOk_lt, and_assoc, wr_is_integer, wb_is_integer] <;> exact q
def wb_is_number : WS :=
  (wRet (wAndV (wCall (wN 1 wf_is_integer) (wCons (wVar 0) wNil)) (wChain .LtE .LtE (wVar 1) (wVar 0) (wVar 2))))
def wr_is_number : WF := wDef 3 wb_is_number

def wf_is_number : WF := fun qs Q _ => ∃ p lo hi, qs = [p, .int lo, .int hi] ∧ okV p ∧ Q (.fz (.bl (numP p lo hi)))
theorem le_is_number : ∀ qs Q E, wf_is_number qs Q E → wr_is_number qs Q E := by
  rintro qs Q E ⟨p, lo, hi, rfl, h, q⟩
  cases p <;> simp [okV, numP] at h q <;> simp [wDef, wSeq, wSet, wC, wKeep, keepA, wFor, wiRange1, wiRange2, wiRow, rowOf, wCons, wNil, wVar, look, wgN, wgTup, wgCons, wgNil, wAug, wAugAdd, wAugMul, wRet, wRetN, retA, wExpr, wIfS, wNext, wBreak, wCont, wOp, wII, wAdd, wSub, wMul, wMod, wDiv, wNeg, wEq, wIn, wIsN, wCmp, cmpI, cmpS, wChain, wB, wTru, truth, szOk, wAnd, wOr, wNot, wAndV, wOrV, wNotV, wIf, wTup, wLst, fzAll, fz1, wIx, wSl, wNo, wYes, SyP.part, wCB, wLen, lenP, wListOf, wTupOf, itemsP, wBools, wSum, wMax, wMin, wMinS, wM2, wInt, intOf, wIsi, isTy, wCall, wN, wM1, kAppend, kExtend, kPopAt, wPop, wAsg, wLc, wTrue, wTurn, wipeE, wLc2, wTurn2, wRaise, wSetIx, wStarts, wEnds, wStr2, wJoin, wSIndex, wLenSet, frzS, fl_int, fl_bl, fl_non, fl_str, eqp_int, eqp_str, lt_len, lt_app, lt_inj, cutS_lt, cutL_to, cutL_from, cutL_mid, rgI_length, Int.natCast_inj, sizeLine_eq, strOk_lt, and_assoc, wr_is_number, wb_is_number, wf_is_integer, isI, okV] <;> try exact q
  rename_i i
  by_cases h1 : lo ≤ i <;> by_cases h2 : i ≤ hi <;> simp [h1, h2] at q ⊢ <;> exact q
def wb_check_number : WS :=
  (wIfS (wNot (wTru (wCall (wN 3 wf_is_number) (wCons (wVar 0) (wCons (wVar 1) (wCons (wVar 2) wNil)))))) (wRaise "BadValue" "name" (wVar 3)) wNext)
def wr_check_number : WF := wDef 4 wb_check_number

def wf_check_number : WF := fun qs Q E => ∃ p lo hi n, qs = [p, .int lo, .int hi, n] ∧ okV p ∧ if numP p lo hi = true then Q (.fz .non) else E ⟨"BadValue", [("name", n)]⟩
theorem le_check_number : ∀ qs Q E, wf_check_number qs Q E → wr_check_number qs Q E := by
  rintro qs Q E ⟨p, lo, hi, n, rfl, h, q⟩
  simp [wDef, wSeq, wSet, wC, wKeep, keepA, wFor, wiRange1, wiRange2, wiRow, rowOf, wCons, wNil, wVar, look, wgN, wgTup, wgCons, wgNil, wAug, wAugAdd, wAugMul, wRet, wRetN, retA, wExpr, wIfS, wNext, wBreak, wCont, wOp, wII, wAdd, wSub, wMul, wMod, wDiv, wNeg, wEq, wIn, wIsN, wCmp, cmpI, cmpS, wChain, wB, wTru, truth, szOk, wAnd, wOr, wNot, wAndV, wOrV, wNotV, wIf, wTup, wLst, fzAll, fz1, wIx, wSl, wNo, wYes, SyP.part, wCB, wLen, lenP, wListOf, wTupOf, itemsP, wBools, wSum, wMax, wMin, wMinS, wM2, wInt, intOf, wIsi, isTy, wCall, wN, wM1, kAppend, kExtend, kPopAt, wPop, wAsg, wLc, wTrue, wTurn, wipeE, wLc2, wTurn2, wRaise, wSetIx, wStarts, wEnds, wStr2, wJoin, wSIndex, wLenSet, frzS, fl_int, fl_bl, fl_non, fl_str, eqp_int, eqp_str, lt_len, lt_app, lt_inj, cutS_lt, cutL_to, cutL_from, cutL_mid, rgI_length, Int.natCast_inj, sizeLine_eq, strOk_lt, and_assoc, wr_check_number, wb_check_number, wf_is_number, h]
  split at q <;> rename_i h1 <;> simp [h1] <;> exact q
def wb_check_size : WS :=
  (wExpr (wCall (wN 4 wf_check_number) (wCons (wVar 0) (wCons (wC (.int 1)) (wCons (wC (.int 3)) (wCons (wC (.str "size")) wNil))))))
def wr_check_size : WF := wDef 1 wb_check_size

def wf_check_size : WF := fun qs Q E => ∃ p, qs = [p] ∧ okV p ∧ if numP p 1 3 = true then Q (.fz .non) else E ⟨"BadValue", [("name", .str "size")]⟩
theorem le_check_size : ∀ qs Q E, wf_check_size qs Q E → wr_check_size qs Q E := by
  rintro qs Q E ⟨p, rfl, h, q⟩
  simp [wDef, wSeq, wSet, wC, wKeep, keepA, wFor, wiRange1, wiRange2, wiRow, rowOf, wCons, wNil, wVar, look, wgN, wgTup, wgCons, wgNil, wAug, wAugAdd, wAugMul, wRet, wRetN, retA, wExpr, wIfS, wNext, wBreak, wCont, wOp, wII, wAdd, wSub, wMul, wMod, wDiv, wNeg, wEq, wIn, wIsN, wCmp, cmpI, cmpS, wChain, wB, wTru, truth, szOk, wAnd, wOr, wNot, wAndV, wOrV, wNotV, wIf, wTup, wLst, fzAll, fz1, wIx, wSl, wNo, wYes, SyP.part, wCB, wLen, lenP, wListOf, wTupOf, itemsP, wBools, wSum, wMax, wMin, wMinS, wM2, wInt, intOf, wIsi, isTy, wCall, wN, wM1, kAppend, kExtend, kPopAt, wPop, wAsg, wLc, wTrue, wTurn, wipeE, wLc2, wTurn2, wRaise, wSetIx, wStarts, wEnds, wStr2, wJoin, wSIndex, wLenSet, frzS, fl_int, fl_bl, fl_non, fl_str, eqp_int, eqp_str, lt_len, lt_app, lt_inj, cutS_lt, cutL_to, cutL_from, cutL_mid, rgI_length, Int.natCast_inj, sizeLine_eq, strOk_lt, and_assoc, wr_check_size, wb_check_size, wf_check_number, h]
  exact q
def wb_power : WS :=
  (wSeq (wSet 2 (wC (.int 1)))
     (wSeq (wFor (wiRange1 (wCons (wVar 1) wNil)) (wgN 3) (wAug 2 wAugMul (wVar 0)))
     (wRet (wVar 2))))
def wr_power : WF := wDef 4 wb_power

def wf_power : WF := fun qs Q _ => ∃ (b : Int) (n : Nat), qs = [.int b, .int (n : Nat)] ∧ n ≤ 100 ∧ -1000 ≤ b ∧ b ≤ 1000 ∧ Q (.fz (.int (b ^ n)))
theorem le_power : ∀ qs Q E, wf_power qs Q E → wr_power qs Q E := by
  rintro qs Q E ⟨b, n, rfl, hn, h1, h2, q⟩
  simp [wDef, wSeq, wSet, wC, wKeep, keepA, wFor, wiRange1, wiRange2, wiRow, rowOf, wCons, wNil, wVar, look, wgN, wgTup, wgCons, wgNil, wAug, wAugAdd, wAugMul, wRet, wRetN, retA, wExpr, wIfS, wNext, wBreak, wCont, wOp, wII, wAdd, wSub, wMul, wMod, wDiv, wNeg, wEq, wIn, wIsN, wCmp, cmpI, cmpS, wChain, wB, wTru, truth, szOk, wAnd, wOr, wNot, wAndV, wOrV, wNotV, wIf, wTup, wLst, fzAll, fz1, wIx, wSl, wNo, wYes, SyP.part, wCB, wLen, lenP, wListOf, wTupOf, itemsP, wBools, wSum, wMax, wMin, wMinS, wM2, wInt, intOf, wIsi, isTy, wCall, wN, wM1, kAppend, kExtend, kPopAt, wPop, wAsg, wLc, wTrue, wTurn, wipeE, wLc2, wTurn2, wRaise, wSetIx, wStarts, wEnds, wStr2, wJoin, wSIndex, wLenSet, frzS, fl_int, fl_bl, fl_non, fl_str, eqp_int, eqp_str, lt_len, lt_app, lt_inj, cutS_lt, cutL_to, cutL_from, cutL_mid, rgI_length, Int.natCast_inj, sizeLine_eq, strOk_lt, and_assoc, wr_power, wb_power]
  refine ⟨⟨by omega, by omega⟩, wLoop_by (fun k ρ => ∃ x, ρ = [some (.fz (.int b)), some (.fz (.int n)), some (.fz (.int (b ^ k))), x]) ⟨none, by simp⟩ ?_ ?_⟩
  · rintro k x ρ N hx ⟨y, rfl⟩ hN
    simp [wDef, wSeq, wSet, wC, wKeep, keepA, wFor, wiRange1, wiRange2, wiRow, rowOf, wCons, wNil, wVar, look, wgN, wgTup, wgCons, wgNil, wAug, wAugAdd, wAugMul, wRet, wRetN, retA, wExpr, wIfS, wNext, wBreak, wCont, wOp, wII, wAdd, wSub, wMul, wMod, wDiv, wNeg, wEq, wIn, wIsN, wCmp, cmpI, cmpS, wChain, wB, wTru, truth, szOk, wAnd, wOr, wNot, wAndV, wOrV, wNotV, wIf, wTup, wLst, fzAll, fz1, wIx, wSl, wNo, wYes, SyP.part, wCB, wLen, lenP, wListOf, wTupOf, itemsP, wBools, wSum, wMax, wMin, wMinS, wM2, wInt, intOf, wIsi, isTy, wCall, wN, wM1, kAppend, kExtend, kPopAt, wPop, wAsg, wLc, wTrue, wTurn, wipeE, wLc2, wTurn2, wRaise, wSetIx, wStarts, wEnds, wStr2, wJoin, wSIndex, wLenSet, frzS, fl_int, fl_bl, fl_non, fl_str, eqp_int, eqp_str, lt_len, lt_app, lt_inj, cutS_lt, cutL_to, cutL_from, cutL_mid, rgI_length, Int.natCast_inj, sizeLine_eq, strOk_lt, and_assoc]
    refine ⟨.inr ⟨by omega, by omega⟩, hN _ ⟨_, by rw [Int.pow_succ]⟩⟩
  · rintro ρ ⟨y, rfl⟩
    rw [rgI_length]
    exact q
/-! ### the Moebius numbers -/
def mobL : List Int → Int → Int → Int
  | [], s, _ => s
  | p :: ps, s, l => if l % p = 0 then (if l / p % p = 0 then 0 else mobL ps (-s) (l / p)) else mobL ps s l
def mobP (n : Nat) : List Int := (List.range (n - 1)).map fun (i : Nat) => 2 + (i : Int)
def mob (n : Nat) : Int := mobL (mobP n) 1 n
theorem mob_small : ∀ n, n < 13 → -2 < mob n ∧ mob n < 2 := by decide +kernel
theorem rgI_map (lo : Int) (n : Nat) : rgI lo n = ((List.range n).map fun (i : Nat) => lo + (i : Int)).map PV.int := by
  unfold rgI
  rw [List.map_map]
  rfl
theorem drop_at {α : Type} {l : List α} {i : Nat} {x : α} (h : l[i]? = some x) : l.drop i = x :: l.drop (i + 1) := by
  obtain ⟨hi, e⟩ := List.getElem?_eq_some_iff.mp h
  rw [List.drop_eq_getElem_cons hi, e]
def wb_moebius : WS :=
  (wSeq (wSet 1 (wC (.int 1)))
     (wSeq (wSet 2 (wVar 0))
     (wSeq (wFor (wiRange2 (wCons (wC (.int 2)) (wCons (wOp wAdd (wVar 0) (wC (.int 1))) wNil))) (wgN 3) (wIfS (wB (wOp (wEq false) (wOp wMod (wVar 2) (wVar 3)) (wC (.int 0)))) (wSeq (wSet 2 (wOp wDiv (wVar 2) (wVar 3)))
         (wSeq (wSet 1 (wNeg (wVar 1)))
         (wIfS (wB (wOp (wEq false) (wOp wMod (wVar 2) (wVar 3)) (wC (.int 0)))) (wRet (wC (.int 0))) wNext))) wNext))
     (wRet (wVar 1)))))
def wr_moebius : WF := wDef 4 wb_moebius

def wf_moebius : WF := fun qs Q _ => ∃ n : Nat, qs = [.int (n : Nat)] ∧ 1 ≤ n ∧ n ≤ 12 ∧ Q (.fz (.int (mob n)))
theorem le_moebius : ∀ qs Q E, wf_moebius qs Q E → wr_moebius qs Q E := by
  rintro qs Q E ⟨n, rfl, h1, h2, q⟩
  simp [wDef, wSeq, wSet, wC, wKeep, keepA, wFor, wiRange1, wiRange2, wiRow, rowOf, wCons, wNil, wVar, look, wgN, wgTup, wgCons, wgNil, wAug, wAugAdd, wAugMul, wRet, wRetN, retA, wExpr, wIfS, wNext, wBreak, wCont, wOp, wII, wAdd, wSub, wMul, wMod, wDiv, wNeg, wEq, wIn, wIsN, wCmp, cmpI, cmpS, wChain, wB, wTru, truth, szOk, wAnd, wOr, wNot, wAndV, wOrV, wNotV, wIf, wTup, wLst, fzAll, fz1, wIx, wSl, wNo, wYes, SyP.part, wCB, wLen, lenP, wListOf, wTupOf, itemsP, wBools, wSum, wMax, wMin, wMinS, wM2, wInt, intOf, wIsi, isTy, wCall, wN, wM1, kAppend, kExtend, kPopAt, wPop, wAsg, wLc, wTrue, wTurn, wipeE, wLc2, wTurn2, wRaise, wSetIx, wStarts, wEnds, wStr2, wJoin, wSIndex, wLenSet, frzS, fl_int, fl_bl, fl_non, fl_str, eqp_int, eqp_str, lt_len, lt_app, lt_inj, cutS_lt, cutL_to, cutL_from, cutL_mid, rgI_length, Int.natCast_inj, sizeLine_eq, strOk_lt, and_assoc, wr_moebius, wb_moebius]
  refine ⟨⟨by omega, by omega⟩, ⟨by omega, by omega⟩, ?_⟩
  have e : ((n : Int) + 1 - 2).toNat = n - 1 := by omega
  rw [e, rgI_map]
  refine wLoop_by (fun k ρ => ∃ (s l : Int) (x : Option AV), ρ = [some (.fz (.int n)), some (.fz (.int s)), some (.fz (.int l)), x] ∧ mobL ((mobP n).drop k) s l = mob n) ⟨1, n, none, rfl, rfl⟩ ?_ ?_
  · rintro k x ρ N hx ⟨s, l, y, rfl, hm⟩ hN
    rw [List.getElem?_map] at hx
    have hx : (mobP n)[k]?.map PV.int = some x := hx
    cases hp : (mobP n)[k]? with
    | none => rw [hp] at hx; cases hx
    | some p =>
      rw [hp] at hx
      cases hx
      rw [drop_at hp] at hm
      have hp0 : 2 ≤ p ∧ p < 100 := by
        obtain ⟨i, hi, rfl⟩ := List.mem_map.mp (List.mem_of_getElem? hp)
        have := List.mem_range.mp hi
        omega
      unfold mobL at hm
      simp [wDef, wSeq, wSet, wC, wKeep, keepA, wFor, wiRange1, wiRange2, wiRow, rowOf, wCons, wNil, wVar, look, wgN, wgTup, wgCons, wgNil, wAug, wAugAdd, wAugMul, wRet, wRetN, retA, wExpr, wIfS, wNext, wBreak, wCont, wOp, wII, wAdd, wSub, wMul, wMod, wDiv, wNeg, wEq, wIn, wIsN, wCmp, cmpI, cmpS, wChain, wB, wTru, truth, szOk, wAnd, wOr, wNot, wAndV, wOrV, wNotV, wIf, wTup, wLst, fzAll, fz1, wIx, wSl, wNo, wYes, SyP.part, wCB, wLen, lenP, wListOf, wTupOf, itemsP, wBools, wSum, wMax, wMin, wMinS, wM2, wInt, intOf, wIsi, isTy, wCall, wN, wM1, kAppend, kExtend, kPopAt, wPop, wAsg, wLc, wTrue, wTurn, wipeE, wLc2, wTurn2, wRaise, wSetIx, wStarts, wEnds, wStr2, wJoin, wSIndex, wLenSet, frzS, fl_int, fl_bl, fl_non, fl_str, eqp_int, eqp_str, lt_len, lt_app, lt_inj, cutS_lt, cutL_to, cutL_from, cutL_mid, rgI_length, Int.natCast_inj, sizeLine_eq, strOk_lt, and_assoc]
      refine ⟨by omega, ?_⟩
      by_cases c1 : l % p = 0
      · rw [if_pos c1] at hm
        simp only [c1, if_true]
        refine ⟨⟨by omega, by omega⟩, by omega, ?_⟩
        by_cases c2 : l / p % p = 0
        · rw [if_pos c2] at hm
          simp [c2]
          rw [hm]
          exact q
        · rw [if_neg c2] at hm
          simp [c2]
          exact hN _ ⟨_, _, _, rfl, hm⟩
      · rw [if_neg c1] at hm
        simp [c1]
        exact hN _ ⟨_, _, _, rfl, hm⟩
  · rintro ρ ⟨s, l, y, rfl, hm⟩
    rw [List.length_map, List.drop_eq_nil_of_le (by unfold mobP; simp)] at hm
    unfold mobL at hm
    simp [wDef, wSeq, wSet, wC, wKeep, keepA, wFor, wiRange1, wiRange2, wiRow, rowOf, wCons, wNil, wVar, look, wgN, wgTup, wgCons, wgNil, wAug, wAugAdd, wAugMul, wRet, wRetN, retA, wExpr, wIfS, wNext, wBreak, wCont, wOp, wII, wAdd, wSub, wMul, wMod, wDiv, wNeg, wEq, wIn, wIsN, wCmp, cmpI, cmpS, wChain, wB, wTru, truth, szOk, wAnd, wOr, wNot, wAndV, wOrV, wNotV, wIf, wTup, wLst, fzAll, fz1, wIx, wSl, wNo, wYes, SyP.part, wCB, wLen, lenP, wListOf, wTupOf, itemsP, wBools, wSum, wMax, wMin, wMinS, wM2, wInt, intOf, wIsi, isTy, wCall, wN, wM1, kAppend, kExtend, kPopAt, wPop, wAsg, wLc, wTrue, wTurn, wipeE, wLc2, wTurn2, wRaise, wSetIx, wStarts, wEnds, wStr2, wJoin, wSIndex, wLenSet, frzS, fl_int, fl_bl, fl_non, fl_str, eqp_int, eqp_str, lt_len, lt_app, lt_inj, cutS_lt, cutL_to, cutL_from, cutL_mid, rgI_length, Int.natCast_inj, sizeLine_eq, strOk_lt, and_assoc]
    rw [hm]
    exact q
/-! ### necklaces counted -/
def divs (n : Nat) : List Nat := ((List.range n).map (· + 1)).filter fun d => n % d = 0
def prim (xs : List Int) (n : Nat) : Int := ((divs n).map fun d => mob d * xs.getD (n / d) 0).sum / n
theorem atI_int {xs : List Int} {k : Nat} (h : k < xs.length) : atI (xs.map PV.int) (k : Int) = some (.int (xs.getD k 0)) := by
  refine atI_nat ?_
  rw [List.getElem?_map, List.getElem?_eq_getElem h, List.getD_eq_getElem?_getD, List.getElem?_eq_getElem h]
  rfl
theorem rgI_nat (lo n : Nat) : rgI (lo : Nat) n = (List.range n).map fun i => PV.int ((lo + i : Nat) : Int) := by
  unfold rgI
  exact List.map_congr_left fun i _ => by rw [Int.natCast_add]
theorem divs_map (n : Nat) : ((List.range n).filter fun i => decide (n % (1 + i) = 0)).map (fun i => PV.int ((1 + i : Nat) : Int)) = (divs n).map fun (d : Nat) => PV.int (d : Int) := by
  unfold divs
  rw [List.filter_map, List.map_map]
  have e1 : (fun i => decide (n % (1 + i) = 0)) = ((fun d => decide (n % d = 0)) ∘ (· + 1)) := funext fun i => by
    simp only [Function.comp_apply]
    rw [Nat.add_comm]
  rw [e1]
  exact List.map_congr_left fun i _ => by simp only [Function.comp_apply]; rw [Nat.add_comm]
def wb_primitive_rings : WS :=
  (wSeq (wSet 2 (wLc (wiRange2 (wCons (wC (.int 1)) (wCons (wOp wAdd (wVar 1) (wC (.int 1))) wNil))) [3] (wgN 3) (wB (wOp (wEq false) (wOp wMod (wVar 1) (wVar 3)) (wC (.int 0)))) (wVar 3)))
     (wRet (wOp wDiv (wCB wSum (wCons (wLc (wiRow (wVar 2)) [3] (wgN 3) wTrue (wOp wMul (wCall (wN 1 wf_moebius) (wCons (wVar 3) wNil)) (wOp wIx (wVar 0) (wOp wDiv (wVar 1) (wVar 3))))) wNil)) (wVar 1))))
def wr_primitive_rings : WF := wDef 4 wb_primitive_rings

def wf_primitive_rings : WF := fun qs Q _ => ∃ (xs : List Int) (n : Nat), qs = [.lst (xs.map PV.int), .int (n : Nat)] ∧ 1 ≤ n ∧ n ≤ 12 ∧ n < xs.length ∧ Q (.fz (.int (prim xs n)))
theorem le_primitive_rings : ∀ qs Q E, wf_primitive_rings qs Q E → wr_primitive_rings qs Q E := by
  rintro qs Q E ⟨xs, n, rfl, h1, h2, h3, q⟩
  simp [wDef, wSeq, wSet, wC, wKeep, keepA, wFor, wiRange1, wiRange2, wiRow, rowOf, wCons, wNil, wVar, look, wgN, wgTup, wgCons, wgNil, wAug, wAugAdd, wAugMul, wRet, wRetN, retA, wExpr, wIfS, wNext, wBreak, wCont, wOp, wII, wAdd, wSub, wMul, wMod, wDiv, wNeg, wEq, wIn, wIsN, wCmp, cmpI, cmpS, wChain, wB, wTru, truth, szOk, wAnd, wOr, wNot, wAndV, wOrV, wNotV, wIf, wTup, wLst, fzAll, fz1, wIx, wSl, wNo, wYes, SyP.part, wCB, wLen, lenP, wListOf, wTupOf, itemsP, wBools, wSum, wMax, wMin, wMinS, wM2, wInt, intOf, wIsi, isTy, wCall, wN, wM1, kAppend, kExtend, kPopAt, wPop, wAsg, wLc, wTrue, wTurn, wipeE, wLc2, wTurn2, wRaise, wSetIx, wStarts, wEnds, wStr2, wJoin, wSIndex, wLenSet, frzS, fl_int, fl_bl, fl_non, fl_str, eqp_int, eqp_str, lt_len, lt_app, lt_inj, cutS_lt, cutL_to, cutL_from, cutL_mid, rgI_length, Int.natCast_inj, sizeLine_eq, strOk_lt, and_assoc, wr_primitive_rings, wb_primitive_rings]
  refine ⟨⟨by omega, by omega⟩, ⟨by omega, by omega⟩, ?_⟩
  rw [show rgI 1 n = _ from rgI_nat 1 n]
  have hl : (divs n).length ≤ n := by
    unfold divs
    refine Nat.le_trans (List.length_filter_le _ _) ?_
    simp
  have hd : ∀ d ∈ divs n, 1 ≤ d ∧ d ≤ n := fun d hd => by
    unfold divs at hd
    obtain ⟨h, _⟩ := List.mem_filter.mp hd
    obtain ⟨i, hi, rfl⟩ := List.mem_map.mp h
    have := List.mem_range.mp hi
    omega
  refine ⟨(by omega), wColl_fm (fun i : Nat => PV.int ((1 + i : Nat) : Int)) (fun i => if decide (n % (1 + i) = 0) = true then [PV.int ((1 + i : Nat) : Int)] else []) (fun i hi Kk k => ?_) ?_⟩
  · simp [wDef, wSeq, wSet, wC, wKeep, keepA, wFor, wiRange1, wiRange2, wiRow, rowOf, wCons, wNil, wVar, look, wgN, wgTup, wgCons, wgNil, wAug, wAugAdd, wAugMul, wRet, wRetN, retA, wExpr, wIfS, wNext, wBreak, wCont, wOp, wII, wAdd, wSub, wMul, wMod, wDiv, wNeg, wEq, wIn, wIsN, wCmp, cmpI, cmpS, wChain, wB, wTru, truth, szOk, wAnd, wOr, wNot, wAndV, wOrV, wNotV, wIf, wTup, wLst, fzAll, fz1, wIx, wSl, wNo, wYes, SyP.part, wCB, wLen, lenP, wListOf, wTupOf, itemsP, wBools, wSum, wMax, wMin, wMinS, wM2, wInt, intOf, wIsi, isTy, wCall, wN, wM1, kAppend, kExtend, kPopAt, wPop, wAsg, wLc, wTrue, wTurn, wipeE, wLc2, wTurn2, wRaise, wSetIx, wStarts, wEnds, wStr2, wJoin, wSIndex, wLenSet, frzS, fl_int, fl_bl, fl_non, fl_str, eqp_int, eqp_str, lt_len, lt_app, lt_inj, cutS_lt, cutL_to, cutL_from, cutL_mid, rgI_length, Int.natCast_inj, sizeLine_eq, strOk_lt, and_assoc]
    refine ⟨by omega, ?_⟩
    have e2 : ((n : Int) % (1 + (i : Int)) = 0) ↔ n % (1 + i) = 0 := by
      rw [show (1 + (i : Int)) = ((1 + i : Nat) : Int) by omega, ← Int.natCast_emod]
      exact Int.natCast_eq_zero
    by_cases c : n % (1 + i) = 0
    · have c' := e2.mpr c
      simp [c, c'] at k ⊢
      exact k
    · have c' : ¬ ((n : Int) % (1 + (i : Int)) = 0) := fun z => c (e2.mp z)
      simp [c, c'] at k ⊢
      exact k
  · rw [flatMap_if, List.nil_append]
    rw [divs_map]
    refine ⟨(by rw [List.length_map]; omega), wColl_fm (fun d : Nat => PV.int (d : Int)) (fun d => [PV.int (mob d * xs.getD (n / d) 0)]) (fun d hd' Kk k => ?_) ?_⟩
    · obtain ⟨g1, g2⟩ := hd d hd'
      simp [wDef, wSeq, wSet, wC, wKeep, keepA, wFor, wiRange1, wiRange2, wiRow, rowOf, wCons, wNil, wVar, look, wgN, wgTup, wgCons, wgNil, wAug, wAugAdd, wAugMul, wRet, wRetN, retA, wExpr, wIfS, wNext, wBreak, wCont, wOp, wII, wAdd, wSub, wMul, wMod, wDiv, wNeg, wEq, wIn, wIsN, wCmp, cmpI, cmpS, wChain, wB, wTru, truth, szOk, wAnd, wOr, wNot, wAndV, wOrV, wNotV, wIf, wTup, wLst, fzAll, fz1, wIx, wSl, wNo, wYes, SyP.part, wCB, wLen, lenP, wListOf, wTupOf, itemsP, wBools, wSum, wMax, wMin, wMinS, wM2, wInt, intOf, wIsi, isTy, wCall, wN, wM1, kAppend, kExtend, kPopAt, wPop, wAsg, wLc, wTrue, wTurn, wipeE, wLc2, wTurn2, wRaise, wSetIx, wStarts, wEnds, wStr2, wJoin, wSIndex, wLenSet, frzS, fl_int, fl_bl, fl_non, fl_str, eqp_int, eqp_str, lt_len, lt_app, lt_inj, cutS_lt, cutL_to, cutL_from, cutL_mid, rgI_length, Int.natCast_inj, sizeLine_eq, strOk_lt, and_assoc, wf_moebius]
      have hq : n / d < xs.length := Nat.lt_of_le_of_lt (Nat.div_le_self n d) h3
      have hm := mob_small d (by omega)
      refine ⟨g1, by omega, ⟨by omega, by omega⟩, _, atI_int hq, .inl ⟨by omega, by omega⟩, k⟩
    · rw [flatMap_one, List.nil_append]
      refine ⟨(divs n).map fun d => mob d * xs.getD (n / d) 0, ?_, ⟨by omega, by omega⟩, q⟩
      rw [List.map_map]
      rfl
def numN (K n : Nat) : Int := prim ((List.range (n + 1)).map fun i => (K : Int) ^ i) n
def wb_count_rings : WS :=
  (wRet (wCall (wN 2 wf_primitive_rings) (wCons (wLc (wiRange1 (wCons (wOp wAdd (wVar 1) (wC (.int 1))) wNil)) [2] (wgN 2) wTrue (wCall (wN 2 wf_power) (wCons (wVar 0) (wCons (wVar 2) wNil)))) (wCons (wVar 1) wNil))))
def wr_count_rings : WF := wDef 3 wb_count_rings

def wf_count_rings : WF := fun qs Q _ => ∃ K n : Nat, qs = [.int (K : Nat), .int (n : Nat)] ∧ K ≤ 3 ∧ 1 ≤ n ∧ n ≤ 12 ∧ Q (.fz (.int (numN K n)))
theorem le_count_rings : ∀ qs Q E, wf_count_rings qs Q E → wr_count_rings qs Q E := by
  rintro qs Q E ⟨K, n, rfl, h0, h1, h2, q⟩
  simp [wDef, wSeq, wSet, wC, wKeep, keepA, wFor, wiRange1, wiRange2, wiRow, rowOf, wCons, wNil, wVar, look, wgN, wgTup, wgCons, wgNil, wAug, wAugAdd, wAugMul, wRet, wRetN, retA, wExpr, wIfS, wNext, wBreak, wCont, wOp, wII, wAdd, wSub, wMul, wMod, wDiv, wNeg, wEq, wIn, wIsN, wCmp, cmpI, cmpS, wChain, wB, wTru, truth, szOk, wAnd, wOr, wNot, wAndV, wOrV, wNotV, wIf, wTup, wLst, fzAll, fz1, wIx, wSl, wNo, wYes, SyP.part, wCB, wLen, lenP, wListOf, wTupOf, itemsP, wBools, wSum, wMax, wMin, wMinS, wM2, wInt, intOf, wIsi, isTy, wCall, wN, wM1, kAppend, kExtend, kPopAt, wPop, wAsg, wLc, wTrue, wTurn, wipeE, wLc2, wTurn2, wRaise, wSetIx, wStarts, wEnds, wStr2, wJoin, wSIndex, wLenSet, frzS, fl_int, fl_bl, fl_non, fl_str, eqp_int, eqp_str, lt_len, lt_app, lt_inj, cutS_lt, cutL_to, cutL_from, cutL_mid, rgI_length, Int.natCast_inj, sizeLine_eq, strOk_lt, and_assoc, wr_count_rings, wb_count_rings]
  refine ⟨⟨by omega, by omega⟩, ?_⟩
  rw [show rgI 0 (n + 1) = _ from rgI_nat 0 (n + 1)]
  refine ⟨(by omega), wColl_fm (fun i : Nat => PV.int ((0 + i : Nat) : Int)) (fun i => [PV.int ((K : Int) ^ i)]) (fun i hi Kk k => ?_) ?_⟩
  · have := List.mem_range.mp hi
    simp [wDef, wSeq, wSet, wC, wKeep, keepA, wFor, wiRange1, wiRange2, wiRow, rowOf, wCons, wNil, wVar, look, wgN, wgTup, wgCons, wgNil, wAug, wAugAdd, wAugMul, wRet, wRetN, retA, wExpr, wIfS, wNext, wBreak, wCont, wOp, wII, wAdd, wSub, wMul, wMod, wDiv, wNeg, wEq, wIn, wIsN, wCmp, cmpI, cmpS, wChain, wB, wTru, truth, szOk, wAnd, wOr, wNot, wAndV, wOrV, wNotV, wIf, wTup, wLst, fzAll, fz1, wIx, wSl, wNo, wYes, SyP.part, wCB, wLen, lenP, wListOf, wTupOf, itemsP, wBools, wSum, wMax, wMin, wMinS, wM2, wInt, intOf, wIsi, isTy, wCall, wN, wM1, kAppend, kExtend, kPopAt, wPop, wAsg, wLc, wTrue, wTurn, wipeE, wLc2, wTurn2, wRaise, wSetIx, wStarts, wEnds, wStr2, wJoin, wSIndex, wLenSet, frzS, fl_int, fl_bl, fl_non, fl_str, eqp_int, eqp_str, lt_len, lt_app, lt_inj, cutS_lt, cutL_to, cutL_from, cutL_mid, rgI_length, Int.natCast_inj, sizeLine_eq, strOk_lt, and_assoc, wf_power]
    exact ⟨by omega, by omega, k⟩
  · rw [flatMap_one, List.nil_append]
    simp [wDef, wSeq, wSet, wC, wKeep, keepA, wFor, wiRange1, wiRange2, wiRow, rowOf, wCons, wNil, wVar, look, wgN, wgTup, wgCons, wgNil, wAug, wAugAdd, wAugMul, wRet, wRetN, retA, wExpr, wIfS, wNext, wBreak, wCont, wOp, wII, wAdd, wSub, wMul, wMod, wDiv, wNeg, wEq, wIn, wIsN, wCmp, cmpI, cmpS, wChain, wB, wTru, truth, szOk, wAnd, wOr, wNot, wAndV, wOrV, wNotV, wIf, wTup, wLst, fzAll, fz1, wIx, wSl, wNo, wYes, SyP.part, wCB, wLen, lenP, wListOf, wTupOf, itemsP, wBools, wSum, wMax, wMin, wMinS, wM2, wInt, intOf, wIsi, isTy, wCall, wN, wM1, kAppend, kExtend, kPopAt, wPop, wAsg, wLc, wTrue, wTurn, wipeE, wLc2, wTurn2, wRaise, wSetIx, wStarts, wEnds, wStr2, wJoin, wSIndex, wLenSet, frzS, fl_int, fl_bl, fl_non, fl_str, eqp_int, eqp_str, lt_len, lt_app, lt_inj, cutS_lt, cutL_to, cutL_from, cutL_mid, rgI_length, Int.natCast_inj, sizeLine_eq, strOk_lt, and_assoc, wf_primitive_rings]
    exact ⟨(List.range (n + 1)).map fun i => (K : Int) ^ i, by rw [List.map_map]; rfl, h1, h2, by simp, q⟩
def wb_necklaces : WS :=
  (wSeq (wExpr (wCall (wN 1 wf_check_size) (wCons (wVar 0) wNil)))
     (wSeq (wExpr (wCall (wN 4 wf_check_number) (wCons (wVar 1) (wCons (wC (.int 1)) (wCons (wC (.int 12)) (wCons (wC (.str "length")) wNil))))))
     (wRet (wCall (wN 2 wf_count_rings) (wCons (wVar 0) (wCons (wVar 1) wNil))))))
def wr_necklaces : WF := wDef 2 wb_necklaces

def wf_necklaces : WF := fun qs Q _ => ∃ K n : Nat, qs = [.int (K : Nat), .int (n : Nat)] ∧ 1 ≤ K ∧ K ≤ 3 ∧ 1 ≤ n ∧ n ≤ 12 ∧ Q (.fz (.int (numN K n)))
theorem le_necklaces : ∀ qs Q E, wf_necklaces qs Q E → wr_necklaces qs Q E := by
  rintro qs Q E ⟨K, n, rfl, h0, h0', h1, h2, q⟩
  simp [wDef, wSeq, wSet, wC, wKeep, keepA, wFor, wiRange1, wiRange2, wiRow, rowOf, wCons, wNil, wVar, look, wgN, wgTup, wgCons, wgNil, wAug, wAugAdd, wAugMul, wRet, wRetN, retA, wExpr, wIfS, wNext, wBreak, wCont, wOp, wII, wAdd, wSub, wMul, wMod, wDiv, wNeg, wEq, wIn, wIsN, wCmp, cmpI, cmpS, wChain, wB, wTru, truth, szOk, wAnd, wOr, wNot, wAndV, wOrV, wNotV, wIf, wTup, wLst, fzAll, fz1, wIx, wSl, wNo, wYes, SyP.part, wCB, wLen, lenP, wListOf, wTupOf, itemsP, wBools, wSum, wMax, wMin, wMinS, wM2, wInt, intOf, wIsi, isTy, wCall, wN, wM1, kAppend, kExtend, kPopAt, wPop, wAsg, wLc, wTrue, wTurn, wipeE, wLc2, wTurn2, wRaise, wSetIx, wStarts, wEnds, wStr2, wJoin, wSIndex, wLenSet, frzS, fl_int, fl_bl, fl_non, fl_str, eqp_int, eqp_str, lt_len, lt_app, lt_inj, cutS_lt, cutL_to, cutL_from, cutL_mid, rgI_length, Int.natCast_inj, sizeLine_eq, strOk_lt, and_assoc, wr_necklaces, wb_necklaces, wf_check_size, wf_check_number, wf_count_rings, okV, numP]
  rw [if_pos (by omega), if_pos (by omega)]
  exact ⟨h0', h1, h2, q⟩
def wb__law_is_integer : WS :=
  (wRet (wAndV (wIsi "int" (wVar 0)) (wNotV (wIsi "bool" (wVar 0)))))
def wr__law_is_integer : WF := wDef 1 wb__law_is_integer

def wf__law_is_integer : WF := fun qs Q _ => ∃ p, qs = [p] ∧ okV p ∧ Q (.fz (.bl (isI p)))
theorem le__law_is_integer : ∀ qs Q E, wf__law_is_integer qs Q E → wr__law_is_integer qs Q E := by
  rintro qs Q E ⟨p, rfl, h, q⟩
  cases p <;> simp [okV, isI] at h q <;> simp [wDef, wSeq, wSet, wC, wKeep, keepA, wFor, wiRange1, wiRange2, wiRow, rowOf, wCons, wNil, wVar, look, wgN, wgTup, wgCons, wgNil, wAug, wAugAdd, wAugMul, wRet, wRetN, retA, wExpr, wIfS, wNext, wBreak, wCont, wOp, wII, wAdd, wSub, wMul, wMod, wDiv, wNeg, wEq, wIn, wIsN, wCmp, cmpI, cmpS, wChain, wB, wTru, truth, szOk, wAnd, wOr, wNot, wAndV, wOrV, wNotV, wIf, wTup, wLst, fzAll, fz1, wIx, wSl, wNo, wYes, SyP.part, wCB, wLen, lenP, wListOf, wTupOf, itemsP, wBools, wSum, wMax, wMin, wMinS, wM2, wInt, intOf, wIsi, isTy, wCall, wN, wM1, kAppend, kExtend, kPopAt, wPop, wAsg, wLc, wTrue, wTurn, wipeE, wLc2, wTurn2, wRaise, wSetIx, wStarts, wEnds, wStr2, wJoin, wSIndex, wLenSet, frzS, fl_int, fl_bl, fl_non, fl_str, eqp_int, eqp_str, lt_len, lt_app, lt_inj, cutS_lt, cutL_to, cutL_from, cutL_mid, rgI_length, Int.natCast_inj, sizeLine_eq, strOk_lt, and_assoc, wr__law_is_integer, wb__law_is_integer] <;> exact q
/-! ### all strings, the turnings of a ring -/
def ext (K : Nat) (r : List Nat) : List (List Nat) := ([97, 98, 99].take K).map fun c => r ++ [c]
theorem ext_len {K : Nat} (hK : K ≤ 3) (r : List Nat) : (ext K r).length = K := by
  unfold ext
  rw [List.length_map, List.length_take]
  exact Nat.min_eq_left (by simpa using hK)
def strsL (K : Nat) : Nat → List (List Nat)
  | 0 => [[]]
  | n + 1 => (strsL K n).flatMap (ext K)
theorem strsL_len (K : Nat) : ∀ n, ∀ r ∈ strsL K n, r.length = n
  | 0, r, h => by
    unfold strsL at h
    rw [List.mem_singleton.mp h]
    rfl
  | n + 1, r, h => by
    unfold strsL at h
    obtain ⟨q, hq, h⟩ := List.mem_flatMap.mp h
    obtain ⟨c, _, rfl⟩ := List.mem_map.mp h
    rw [List.length_append, strsL_len K n q hq]
    rfl
theorem strsL_count (K : Nat) (hK : K ≤ 3) : ∀ n, (strsL K n).length = K ^ n
  | 0 => rfl
  | n + 1 => by
    unfold strsL
    rw [List.length_flatMap, List.map_congr_left fun r _ => ext_len hK r, List.map_const', List.sum_replicate_nat, strsL_count K hK n, Nat.pow_succ]
def pre (K k j : Nat) : List (List Nat) := ((strsL K k).take j).flatMap (ext K)
theorem pre_all (K k : Nat) : pre K k (strsL K k).length = strsL K (k + 1) := by
  unfold pre
  rw [List.take_length, strsL]
theorem pre_succ {K k j : Nat} {r : List Nat} (h : (strsL K k)[j]? = some r) : pre K k (j + 1) = pre K k j ++ ext K r := by
  unfold pre
  rw [List.take_succ, h, List.flatMap_append]
  simp
theorem pre_len {K k j : Nat} (hK : K ≤ 3) : (pre K k j).length ≤ K ^ (k + 1) := by
  unfold pre
  rw [List.length_flatMap, List.map_congr_left fun r _ => ext_len hK r, List.map_const', List.sum_replicate_nat, Nat.pow_succ]
  refine Nat.mul_le_mul_right _ ?_
  rw [List.length_take, strsL_count K hK]
  exact Nat.min_le_right _ _
theorem abc_cut (K : Nat) : SyP.signs (cutS "abc" none (some (K : Int))) = ([97, 98, 99].take K).map fun c => pS [c] := by
  show SyP.signs (cutS (lt [97, 98, 99]) none (some (K : Int))) = _
  rw [cutS_lt, cutL_to, signs_lt]
theorem strs_small {K n : Nat} (h : K ≤ 3) (hn : n ≤ 6) : K ^ n ≤ 729 := Nat.le_trans (Nat.pow_le_pow_left h n) (Nat.pow_le_pow_right (by decide) hn)
def wb__law_strings : WS :=
  (wSeq (wSet 2 (wLst (wCons (wC (.str "")) wNil)))
     (wSeq (wFor (wiRange1 (wCons (wVar 1) wNil)) (wgN 3) (wSeq (wSet 4 (wLst wNil))
       (wSeq (wFor (wiRow (wVar 2)) (wgN 5) (wSet 4 (wOp wAdd (wVar 4) (wLc (wiRow (wSl (wC (.str "abc")) wNo (wYes (wVar 0)))) [6] (wgN 6) wTrue (wOp wAdd (wVar 5) (wVar 6))))))
       (wSet 2 (wVar 4)))))
     (wRet (wVar 2))))
def wr__law_strings : WF := wDef 7 wb__law_strings

def wf__law_strings : WF := fun qs Q _ => ∃ K n : Nat, qs = [.int (K : Nat), .int (n : Nat)] ∧ K ≤ 3 ∧ n ≤ 6 ∧ ∀ r, (r = .ow (.lst ((strsL K n).map pS)) ∨ r = .fz (.lst ((strsL K n).map pS))) → Q r
theorem le__law_strings : ∀ qs Q E, wf__law_strings qs Q E → wr__law_strings qs Q E := by
  rintro qs Q E ⟨K, n, rfl, h0, h1, q⟩
  simp [wDef, wSeq, wSet, wC, wKeep, keepA, wFor, wiRange1, wiRange2, wiRow, rowOf, wCons, wNil, wVar, look, wgN, wgTup, wgCons, wgNil, wAug, wAugAdd, wAugMul, wRet, wRetN, retA, wExpr, wIfS, wNext, wBreak, wCont, wOp, wII, wAdd, wSub, wMul, wMod, wDiv, wNeg, wEq, wIn, wIsN, wCmp, cmpI, cmpS, wChain, wB, wTru, truth, szOk, wAnd, wOr, wNot, wAndV, wOrV, wNotV, wIf, wTup, wLst, fzAll, fz1, wIx, wSl, wNo, wYes, SyP.part, wCB, wLen, lenP, wListOf, wTupOf, itemsP, wBools, wSum, wMax, wMin, wMinS, wM2, wInt, intOf, wIsi, isTy, wCall, wN, wM1, kAppend, kExtend, kPopAt, wPop, wAsg, wLc, wTrue, wTurn, wipeE, wLc2, wTurn2, wRaise, wSetIx, wStarts, wEnds, wStr2, wJoin, wSIndex, wLenSet, frzS, fl_int, fl_bl, fl_non, fl_str, eqp_int, eqp_str, lt_len, lt_app, lt_inj, cutS_lt, cutL_to, cutL_from, cutL_mid, rgI_length, Int.natCast_inj, sizeLine_eq, strOk_lt, and_assoc, wr__law_strings, wb__law_strings]
  refine ⟨⟨by omega, by omega⟩, wLoop_by (fun k ρ => ∃ (r : AV) (x4 x3 x5 x6 : Option AV), k ≤ n ∧ (r = .ow (.lst ((strsL K k).map pS)) ∨ r = .fz (.lst ((strsL K k).map pS))) ∧ ρ = [some (.fz (.int K)), some (.fz (.int n)), some r, x3, x4, x5, none]) ⟨_, none, none, none, none, Nat.zero_le _, .inl rfl, rfl⟩ ?_ ?_⟩
  · rintro k x ρ N hx ⟨r, x4, x3, x5, x6, hk, hr, rfl⟩ hN
    have hk' : k < n := by
      have := (List.getElem?_eq_some_iff.mp hx).1
      rwa [rgI_length] at this
    have go : ∀ x3 x5 : Option AV, ∀ P : PD, (∀ x5 : Option AV, P.nx [some (.fz (.int K)), some (.fz (.int n)), some (.fz (.lst ((strsL K k).map pS))), x3, some (.ow (.lst ((strsL K (k + 1)).map pS))), x5, none]) →
        wLoop (wgN 5) (wSet 4 (wOp wAdd (wVar 4) (wLc (wiRow (wSl (wC (.str "abc")) wNo (wYes (wVar 0)))) [6] (wgN 6) wTrue (wOp wAdd (wVar 5) (wVar 6))))) P
        ((strsL K k).map pS) [some (.fz (.int K)), some (.fz (.int n)), some (.fz (.lst ((strsL K k).map pS))), x3, some (.ow (.lst [])), x5, none] := fun x3 x5 P hP => by
      refine wLoop_by (fun j ρ => ∃ x5 : Option AV, ρ = [some (.fz (.int K)), some (.fz (.int n)), some (.fz (.lst ((strsL K k).map pS))), x3, some (.ow (.lst ((pre K k j).map pS))), x5, none]) ⟨x5, rfl⟩ ?_ ?_
      · rintro j y ρ N2 hy ⟨x5, rfl⟩ hN2
        rw [List.getElem?_map] at hy
        cases hr2 : (strsL K k)[j]? with
        | none => rw [hr2] at hy; cases hy
        | some r =>
          rw [hr2] at hy
          cases hy
          have hm : r ∈ strsL K k := List.mem_of_getElem? hr2
          have hl := strsL_len K k r hm
          simp [wDef, wSeq, wSet, wC, wKeep, keepA, wFor, wiRange1, wiRange2, wiRow, rowOf, wCons, wNil, wVar, look, wgN, wgTup, wgCons, wgNil, wAug, wAugAdd, wAugMul, wRet, wRetN, retA, wExpr, wIfS, wNext, wBreak, wCont, wOp, wII, wAdd, wSub, wMul, wMod, wDiv, wNeg, wEq, wIn, wIsN, wCmp, cmpI, cmpS, wChain, wB, wTru, truth, szOk, wAnd, wOr, wNot, wAndV, wOrV, wNotV, wIf, wTup, wLst, fzAll, fz1, wIx, wSl, wNo, wYes, SyP.part, wCB, wLen, lenP, wListOf, wTupOf, itemsP, wBools, wSum, wMax, wMin, wMinS, wM2, wInt, intOf, wIsi, isTy, wCall, wN, wM1, kAppend, kExtend, kPopAt, wPop, wAsg, wLc, wTrue, wTurn, wipeE, wLc2, wTurn2, wRaise, wSetIx, wStarts, wEnds, wStr2, wJoin, wSIndex, wLenSet, frzS, fl_int, fl_bl, fl_non, fl_str, eqp_int, eqp_str, lt_len, lt_app, lt_inj, cutS_lt, cutL_to, cutL_from, cutL_mid, rgI_length, Int.natCast_inj, sizeLine_eq, strOk_lt, and_assoc]
          rw [abc_cut]
          refine ⟨(by decide), (by rw [List.length_map, List.length_take]; exact Nat.le_trans (Nat.min_le_right _ _) (by decide)), wColl_fm (fun c => pS [c]) (fun c => [pS (r ++ [c])]) (fun c _ Kk q => ?_) ?_⟩
          · simp [wDef, wSeq, wSet, wC, wKeep, keepA, wFor, wiRange1, wiRange2, wiRow, rowOf, wCons, wNil, wVar, look, wgN, wgTup, wgCons, wgNil, wAug, wAugAdd, wAugMul, wRet, wRetN, retA, wExpr, wIfS, wNext, wBreak, wCont, wOp, wII, wAdd, wSub, wMul, wMod, wDiv, wNeg, wEq, wIn, wIsN, wCmp, cmpI, cmpS, wChain, wB, wTru, truth, szOk, wAnd, wOr, wNot, wAndV, wOrV, wNotV, wIf, wTup, wLst, fzAll, fz1, wIx, wSl, wNo, wYes, SyP.part, wCB, wLen, lenP, wListOf, wTupOf, itemsP, wBools, wSum, wMax, wMin, wMinS, wM2, wInt, intOf, wIsi, isTy, wCall, wN, wM1, kAppend, kExtend, kPopAt, wPop, wAsg, wLc, wTrue, wTurn, wipeE, wLc2, wTurn2, wRaise, wSetIx, wStarts, wEnds, wStr2, wJoin, wSIndex, wLenSet, frzS, fl_int, fl_bl, fl_non, fl_str, eqp_int, eqp_str, lt_len, lt_app, lt_inj, cutS_lt, cutL_to, cutL_from, cutL_mid, rgI_length, Int.natCast_inj, sizeLine_eq, strOk_lt, and_assoc]
            exact ⟨by omega, q⟩
          · rw [flatMap_one, List.nil_append]
            refine ⟨?_, hN2 _ ⟨some (.fz (pS r)), ?_⟩⟩
            · have := pre_len (k := k) (j := j) h0
              have := strs_small h0 (show k + 1 ≤ 6 by omega)
              have := Nat.min_le_right K 3
              simp
              omega
            · rw [pre_succ hr2, List.map_append, ext, List.map_map]
              rfl
      · rintro ρ ⟨x5, rfl⟩
        rw [List.length_map, pre_all]
        exact hP _
    rcases hr with rfl | rfl
    all_goals
      simp [wDef, wSeq, wSet, wC, wKeep, keepA, wFor, wiRange1, wiRange2, wiRow, rowOf, wCons, wNil, wVar, look, wgN, wgTup, wgCons, wgNil, wAug, wAugAdd, wAugMul, wRet, wRetN, retA, wExpr, wIfS, wNext, wBreak, wCont, wOp, wII, wAdd, wSub, wMul, wMod, wDiv, wNeg, wEq, wIn, wIsN, wCmp, cmpI, cmpS, wChain, wB, wTru, truth, szOk, wAnd, wOr, wNot, wAndV, wOrV, wNotV, wIf, wTup, wLst, fzAll, fz1, wIx, wSl, wNo, wYes, SyP.part, wCB, wLen, lenP, wListOf, wTupOf, itemsP, wBools, wSum, wMax, wMin, wMinS, wM2, wInt, intOf, wIsi, isTy, wCall, wN, wM1, kAppend, kExtend, kPopAt, wPop, wAsg, wLc, wTrue, wTurn, wipeE, wLc2, wTurn2, wRaise, wSetIx, wStarts, wEnds, wStr2, wJoin, wSIndex, wLenSet, frzS, fl_int, fl_bl, fl_non, fl_str, eqp_int, eqp_str, lt_len, lt_app, lt_inj, cutS_lt, cutL_to, cutL_from, cutL_mid, rgI_length, Int.natCast_inj, sizeLine_eq, strOk_lt, and_assoc]
      refine go _ _ _ fun x5 => ?_
      simp [wDef, wSeq, wSet, wC, wKeep, keepA, wFor, wiRange1, wiRange2, wiRow, rowOf, wCons, wNil, wVar, look, wgN, wgTup, wgCons, wgNil, wAug, wAugAdd, wAugMul, wRet, wRetN, retA, wExpr, wIfS, wNext, wBreak, wCont, wOp, wII, wAdd, wSub, wMul, wMod, wDiv, wNeg, wEq, wIn, wIsN, wCmp, cmpI, cmpS, wChain, wB, wTru, truth, szOk, wAnd, wOr, wNot, wAndV, wOrV, wNotV, wIf, wTup, wLst, fzAll, fz1, wIx, wSl, wNo, wYes, SyP.part, wCB, wLen, lenP, wListOf, wTupOf, itemsP, wBools, wSum, wMax, wMin, wMinS, wM2, wInt, intOf, wIsi, isTy, wCall, wN, wM1, kAppend, kExtend, kPopAt, wPop, wAsg, wLc, wTrue, wTurn, wipeE, wLc2, wTurn2, wRaise, wSetIx, wStarts, wEnds, wStr2, wJoin, wSIndex, wLenSet, frzS, fl_int, fl_bl, fl_non, fl_str, eqp_int, eqp_str, lt_len, lt_app, lt_inj, cutS_lt, cutL_to, cutL_from, cutL_mid, rgI_length, Int.natCast_inj, sizeLine_eq, strOk_lt, and_assoc]
      exact hN _ ⟨_, some (.fz (.lst ((strsL K (k + 1)).map pS))), some (.fz x), x5, none, by omega, .inr rfl, rfl⟩
  · rintro ρ ⟨r, x4, x3, x5, x6, hk, hr, rfl⟩
    rw [rgI_length] at hr
    rcases hr with rfl | rfl
    · simp [wDef, wSeq, wSet, wC, wKeep, keepA, wFor, wiRange1, wiRange2, wiRow, rowOf, wCons, wNil, wVar, look, wgN, wgTup, wgCons, wgNil, wAug, wAugAdd, wAugMul, wRet, wRetN, retA, wExpr, wIfS, wNext, wBreak, wCont, wOp, wII, wAdd, wSub, wMul, wMod, wDiv, wNeg, wEq, wIn, wIsN, wCmp, cmpI, cmpS, wChain, wB, wTru, truth, szOk, wAnd, wOr, wNot, wAndV, wOrV, wNotV, wIf, wTup, wLst, fzAll, fz1, wIx, wSl, wNo, wYes, SyP.part, wCB, wLen, lenP, wListOf, wTupOf, itemsP, wBools, wSum, wMax, wMin, wMinS, wM2, wInt, intOf, wIsi, isTy, wCall, wN, wM1, kAppend, kExtend, kPopAt, wPop, wAsg, wLc, wTrue, wTurn, wipeE, wLc2, wTurn2, wRaise, wSetIx, wStarts, wEnds, wStr2, wJoin, wSIndex, wLenSet, frzS, fl_int, fl_bl, fl_non, fl_str, eqp_int, eqp_str, lt_len, lt_app, lt_inj, cutS_lt, cutL_to, cutL_from, cutL_mid, rgI_length, Int.natCast_inj, sizeLine_eq, strOk_lt, and_assoc]
      exact q _ (.inl rfl)
    · simp [wDef, wSeq, wSet, wC, wKeep, keepA, wFor, wiRange1, wiRange2, wiRow, rowOf, wCons, wNil, wVar, look, wgN, wgTup, wgCons, wgNil, wAug, wAugAdd, wAugMul, wRet, wRetN, retA, wExpr, wIfS, wNext, wBreak, wCont, wOp, wII, wAdd, wSub, wMul, wMod, wDiv, wNeg, wEq, wIn, wIsN, wCmp, cmpI, cmpS, wChain, wB, wTru, truth, szOk, wAnd, wOr, wNot, wAndV, wOrV, wNotV, wIf, wTup, wLst, fzAll, fz1, wIx, wSl, wNo, wYes, SyP.part, wCB, wLen, lenP, wListOf, wTupOf, itemsP, wBools, wSum, wMax, wMin, wMinS, wM2, wInt, intOf, wIsi, isTy, wCall, wN, wM1, kAppend, kExtend, kPopAt, wPop, wAsg, wLc, wTrue, wTurn, wipeE, wLc2, wTurn2, wRaise, wSetIx, wStarts, wEnds, wStr2, wJoin, wSIndex, wLenSet, frzS, fl_int, fl_bl, fl_non, fl_str, eqp_int, eqp_str, lt_len, lt_app, lt_inj, cutS_lt, cutL_to, cutL_from, cutL_mid, rgI_length, Int.natCast_inj, sizeLine_eq, strOk_lt, and_assoc]
      exact q _ (.inr rfl)
/-- the turnings of a ring -/
def rots (l : List Nat) : List (List Nat) := (List.range l.length).map fun i => l.drop i ++ l.take i
theorem rots_ok {l : List Nat} (h : okT l) : ∀ r ∈ rots l, okT r := fun r hr c hc => by
  unfold rots at hr
  obtain ⟨i, _, rfl⟩ := List.mem_map.mp hr
  rcases List.mem_append.mp hc with g | g
  · exact h c (List.mem_of_mem_drop g)
  · exact h c (List.mem_of_mem_take g)
theorem rots_len (l : List Nat) : (rots l).length = l.length := by simp [rots]
def wb__law_turnings : WS :=
  (wRet (wLc (wiRange1 (wCons (wCB wLen (wCons (wVar 0) wNil)) wNil)) [1] (wgN 1) wTrue (wOp wAdd (wSl (wVar 0) (wYes (wVar 1)) wNo) (wSl (wVar 0) wNo (wYes (wVar 1))))))
def wr__law_turnings : WF := wDef 2 wb__law_turnings

def wf__law_turnings : WF := fun qs Q _ => ∃ l, qs = [pS l] ∧ l.length ≤ 6 ∧ Q (.ow (.lst ((rots l).map pS)))
theorem le__law_turnings : ∀ qs Q E, wf__law_turnings qs Q E → wr__law_turnings qs Q E := by
  rintro qs Q E ⟨l, rfl, hl, q⟩
  simp [wDef, wSeq, wSet, wC, wKeep, keepA, wFor, wiRange1, wiRange2, wiRow, rowOf, wCons, wNil, wVar, look, wgN, wgTup, wgCons, wgNil, wAug, wAugAdd, wAugMul, wRet, wRetN, retA, wExpr, wIfS, wNext, wBreak, wCont, wOp, wII, wAdd, wSub, wMul, wMod, wDiv, wNeg, wEq, wIn, wIsN, wCmp, cmpI, cmpS, wChain, wB, wTru, truth, szOk, wAnd, wOr, wNot, wAndV, wOrV, wNotV, wIf, wTup, wLst, fzAll, fz1, wIx, wSl, wNo, wYes, SyP.part, wCB, wLen, lenP, wListOf, wTupOf, itemsP, wBools, wSum, wMax, wMin, wMinS, wM2, wInt, intOf, wIsi, isTy, wCall, wN, wM1, kAppend, kExtend, kPopAt, wPop, wAsg, wLc, wTrue, wTurn, wipeE, wLc2, wTurn2, wRaise, wSetIx, wStarts, wEnds, wStr2, wJoin, wSIndex, wLenSet, frzS, fl_int, fl_bl, fl_non, fl_str, eqp_int, eqp_str, lt_len, lt_app, lt_inj, cutS_lt, cutL_to, cutL_from, cutL_mid, rgI_length, Int.natCast_inj, sizeLine_eq, strOk_lt, and_assoc, wr__law_turnings, wb__law_turnings]
  rw [show rgI 0 l.length = _ from rgI_nat 0 l.length]
  refine ⟨(by omega), ⟨by omega, by omega⟩, (by omega), wColl_fm (fun i : Nat => PV.int ((0 + i : Nat) : Int)) (fun i => [pS (l.drop i ++ l.take i)]) (fun i hi Kk k => ?_) ?_⟩
  · have := List.mem_range.mp hi
    rw [Nat.zero_add]
    simp [wDef, wSeq, wSet, wC, wKeep, keepA, wFor, wiRange1, wiRange2, wiRow, rowOf, wCons, wNil, wVar, look, wgN, wgTup, wgCons, wgNil, wAug, wAugAdd, wAugMul, wRet, wRetN, retA, wExpr, wIfS, wNext, wBreak, wCont, wOp, wII, wAdd, wSub, wMul, wMod, wDiv, wNeg, wEq, wIn, wIsN, wCmp, cmpI, cmpS, wChain, wB, wTru, truth, szOk, wAnd, wOr, wNot, wAndV, wOrV, wNotV, wIf, wTup, wLst, fzAll, fz1, wIx, wSl, wNo, wYes, SyP.part, wCB, wLen, lenP, wListOf, wTupOf, itemsP, wBools, wSum, wMax, wMin, wMinS, wM2, wInt, intOf, wIsi, isTy, wCall, wN, wM1, kAppend, kExtend, kPopAt, wPop, wAsg, wLc, wTrue, wTurn, wipeE, wLc2, wTurn2, wRaise, wSetIx, wStarts, wEnds, wStr2, wJoin, wSIndex, wLenSet, frzS, fl_int, fl_bl, fl_non, fl_str, eqp_int, eqp_str, lt_len, lt_app, lt_inj, cutS_lt, cutL_to, cutL_from, cutL_mid, rgI_length, Int.natCast_inj, sizeLine_eq, strOk_lt, and_assoc]
    exact ⟨by omega, by omega, k⟩
  · rw [flatMap_one, List.nil_append]
    have e : (rots l).map pS = (List.range l.length).map fun i => pS (l.drop i ++ l.take i) := by
      unfold rots
      rw [List.map_map]
      rfl
    rw [← e]
    exact q
def wb__law_is_primitive : WS :=
  (wRet (wOp (wEq false) (wCB wLen (wCons (wLc (wiRow (wCall (wN 1 wf__law_turnings) (wCons (wVar 0) wNil))) [1] (wgN 1) (wB (wOp (wEq false) (wVar 1) (wVar 0))) (wVar 1)) wNil)) (wC (.int 1))))
def wr__law_is_primitive : WF := wDef 2 wb__law_is_primitive

def primB (l : List Nat) : Bool := decide (((rots l).filter fun r => decide (r = l)).length = 1)
def wf__law_is_primitive : WF := fun qs Q _ => ∃ l, qs = [pS l] ∧ l.length ≤ 6 ∧ okT l ∧ Q (.fz (.bl (primB l)))
theorem le__law_is_primitive : ∀ qs Q E, wf__law_is_primitive qs Q E → wr__law_is_primitive qs Q E := by
  rintro qs Q E ⟨l, rfl, hl, ho, q⟩
  simp [wDef, wSeq, wSet, wC, wKeep, keepA, wFor, wiRange1, wiRange2, wiRow, rowOf, wCons, wNil, wVar, look, wgN, wgTup, wgCons, wgNil, wAug, wAugAdd, wAugMul, wRet, wRetN, retA, wExpr, wIfS, wNext, wBreak, wCont, wOp, wII, wAdd, wSub, wMul, wMod, wDiv, wNeg, wEq, wIn, wIsN, wCmp, cmpI, cmpS, wChain, wB, wTru, truth, szOk, wAnd, wOr, wNot, wAndV, wOrV, wNotV, wIf, wTup, wLst, fzAll, fz1, wIx, wSl, wNo, wYes, SyP.part, wCB, wLen, lenP, wListOf, wTupOf, itemsP, wBools, wSum, wMax, wMin, wMinS, wM2, wInt, intOf, wIsi, isTy, wCall, wN, wM1, kAppend, kExtend, kPopAt, wPop, wAsg, wLc, wTrue, wTurn, wipeE, wLc2, wTurn2, wRaise, wSetIx, wStarts, wEnds, wStr2, wJoin, wSIndex, wLenSet, frzS, fl_int, fl_bl, fl_non, fl_str, eqp_int, eqp_str, lt_len, lt_app, lt_inj, cutS_lt, cutL_to, cutL_from, cutL_mid, rgI_length, Int.natCast_inj, sizeLine_eq, strOk_lt, and_assoc, wr__law_is_primitive, wb__law_is_primitive, wf__law_turnings]
  refine ⟨hl, by rw [rots_len]; omega, wColl_fm pS (fun r => if decide (r = l) = true then [pS r] else []) (fun r hr Kk k => ?_) ?_⟩
  · simp [wDef, wSeq, wSet, wC, wKeep, keepA, wFor, wiRange1, wiRange2, wiRow, rowOf, wCons, wNil, wVar, look, wgN, wgTup, wgCons, wgNil, wAug, wAugAdd, wAugMul, wRet, wRetN, retA, wExpr, wIfS, wNext, wBreak, wCont, wOp, wII, wAdd, wSub, wMul, wMod, wDiv, wNeg, wEq, wIn, wIsN, wCmp, cmpI, cmpS, wChain, wB, wTru, truth, szOk, wAnd, wOr, wNot, wAndV, wOrV, wNotV, wIf, wTup, wLst, fzAll, fz1, wIx, wSl, wNo, wYes, SyP.part, wCB, wLen, lenP, wListOf, wTupOf, itemsP, wBools, wSum, wMax, wMin, wMinS, wM2, wInt, intOf, wIsi, isTy, wCall, wN, wM1, kAppend, kExtend, kPopAt, wPop, wAsg, wLc, wTrue, wTurn, wipeE, wLc2, wTurn2, wRaise, wSetIx, wStarts, wEnds, wStr2, wJoin, wSIndex, wLenSet, frzS, fl_int, fl_bl, fl_non, fl_str, eqp_int, eqp_str, lt_len, lt_app, lt_inj, cutS_lt, cutL_to, cutL_from, cutL_mid, rgI_length, Int.natCast_inj, sizeLine_eq, strOk_lt, and_assoc]
    refine ⟨rots_ok ho r hr, ho, ?_⟩
    by_cases c : r = l
    · subst c
      simp at k ⊢
      exact k
    · simp [c] at k ⊢
      exact k
  · rw [flatMap_if, List.nil_append, List.length_map]
    unfold primB at q
    have e : ((((rots l).filter fun r => decide (r = l)).length : Int) = 1) = (((rots l).filter fun r => decide (r = l)).length = 1) := propext (by omega)
    simp only [e]
    exact q
/-- the least text of a list of texts -/
def leastB (l : List Nat) (ls : List (List Nat)) : Bool := ls.all fun r => decide (¬ r < l)
def neckL (K n : Nat) : List (List Nat) := (strsL K n).filter fun l => primB l && leastB l (rots l)
theorem strsL_ok (K : Nat) : ∀ n, ∀ r ∈ strsL K n, okT r
  | 0, r, h => by
    unfold strsL at h
    rw [List.mem_singleton.mp h]
    exact fun c h => nomatch h
  | n + 1, r, h => fun c hc => by
    unfold strsL at h
    obtain ⟨q, hq, h⟩ := List.mem_flatMap.mp h
    unfold ext at h
    obtain ⟨d, hd, rfl⟩ := List.mem_map.mp h
    rcases List.mem_append.mp hc with g | g
    · exact strsL_ok K n q hq c g
    · have hd := List.mem_of_mem_take hd
      simp at g hd
      omega
def wb__law_necklaces : WS :=
  (wRet (wLc (wiRow (wCall (wN 2 wf__law_strings) (wCons (wVar 0) (wCons (wVar 1) wNil)))) [2] (wgN 2) (wAnd (wTru (wCall (wN 1 wf__law_is_primitive) (wCons (wVar 2) wNil))) (wB (wOp (wEq false) (wVar 2) (wCB wMinS (wCons (wCall (wN 1 wf__law_turnings) (wCons (wVar 2) wNil)) wNil))))) (wVar 2)))
def wr__law_necklaces : WF := wDef 3 wb__law_necklaces

def wf__law_necklaces : WF := fun qs Q _ => ∃ K n : Nat, qs = [.int (K : Nat), .int (n : Nat)] ∧ K ≤ 3 ∧ 1 ≤ n ∧ n ≤ 6 ∧ Q (.ow (.lst ((neckL K n).map pS)))
theorem le__law_necklaces : ∀ qs Q E, wf__law_necklaces qs Q E → wr__law_necklaces qs Q E := by
  rintro qs Q E ⟨K, n, rfl, h0, h1, h2, q⟩
  simp [wDef, wSeq, wSet, wC, wKeep, keepA, wFor, wiRange1, wiRange2, wiRow, rowOf, wCons, wNil, wVar, look, wgN, wgTup, wgCons, wgNil, wAug, wAugAdd, wAugMul, wRet, wRetN, retA, wExpr, wIfS, wNext, wBreak, wCont, wOp, wII, wAdd, wSub, wMul, wMod, wDiv, wNeg, wEq, wIn, wIsN, wCmp, cmpI, cmpS, wChain, wB, wTru, truth, szOk, wAnd, wOr, wNot, wAndV, wOrV, wNotV, wIf, wTup, wLst, fzAll, fz1, wIx, wSl, wNo, wYes, SyP.part, wCB, wLen, lenP, wListOf, wTupOf, itemsP, wBools, wSum, wMax, wMin, wMinS, wM2, wInt, intOf, wIsi, isTy, wCall, wN, wM1, kAppend, kExtend, kPopAt, wPop, wAsg, wLc, wTrue, wTurn, wipeE, wLc2, wTurn2, wRaise, wSetIx, wStarts, wEnds, wStr2, wJoin, wSIndex, wLenSet, frzS, fl_int, fl_bl, fl_non, fl_str, eqp_int, eqp_str, lt_len, lt_app, lt_inj, cutS_lt, cutL_to, cutL_from, cutL_mid, rgI_length, Int.natCast_inj, sizeLine_eq, strOk_lt, and_assoc, wr__law_necklaces, wb__law_necklaces, wf__law_strings]
  refine ⟨h0, h2, by rw [strsL_count K h0]; have := strs_small h0 h2; omega, wColl_fm pS (fun l => if (primB l && leastB l (rots l)) = true then [pS l] else []) (fun l hl Kk k => ?_) ?_⟩
  · simp [wDef, wSeq, wSet, wC, wKeep, keepA, wFor, wiRange1, wiRange2, wiRow, rowOf, wCons, wNil, wVar, look, wgN, wgTup, wgCons, wgNil, wAug, wAugAdd, wAugMul, wRet, wRetN, retA, wExpr, wIfS, wNext, wBreak, wCont, wOp, wII, wAdd, wSub, wMul, wMod, wDiv, wNeg, wEq, wIn, wIsN, wCmp, cmpI, cmpS, wChain, wB, wTru, truth, szOk, wAnd, wOr, wNot, wAndV, wOrV, wNotV, wIf, wTup, wLst, fzAll, fz1, wIx, wSl, wNo, wYes, SyP.part, wCB, wLen, lenP, wListOf, wTupOf, itemsP, wBools, wSum, wMax, wMin, wMinS, wM2, wInt, intOf, wIsi, isTy, wCall, wN, wM1, kAppend, kExtend, kPopAt, wPop, wAsg, wLc, wTrue, wTurn, wipeE, wLc2, wTurn2, wRaise, wSetIx, wStarts, wEnds, wStr2, wJoin, wSIndex, wLenSet, frzS, fl_int, fl_bl, fl_non, fl_str, eqp_int, eqp_str, lt_len, lt_app, lt_inj, cutS_lt, cutL_to, cutL_from, cutL_mid, rgI_length, Int.natCast_inj, sizeLine_eq, strOk_lt, and_assoc, wf__law_is_primitive, wf__law_turnings]
    have hlen := strsL_len K n l hl
    have ho := strsL_ok K n l hl
    refine ⟨by omega, ho, ?_⟩
    cases hp : primB l with
    | false =>
      refine .inl ⟨rfl, ?_⟩
      rw [hp] at k
      exact k
    | true =>
      refine .inr ⟨rfl, by omega, rots l, rfl, by rw [rots_len]; omega, fun m hm hle => ⟨ho, rots_ok ho m hm, ?_⟩⟩
      rw [hp] at k
      have hr0 : l ∈ rots l := by
        unfold rots
        exact List.mem_map.mpr ⟨0, List.mem_range.mpr (by omega), by simp⟩
      have e : leastB l (rots l) = decide (l = m) := by
        rw [Bool.eq_iff_iff]
        unfold leastB
        simp only [List.all_eq_true, decide_eq_true_eq]
        constructor
        · exact fun h => List.le_antisymm (List.not_lt.mp (h m hm)) (hle l hr0)
        · rintro rfl r hr
          exact List.not_lt.mpr (hle r hr)
      rw [e] at k
      by_cases e : l = m
      · simp [e] at k ⊢
        exact k
      · simp [e] at k ⊢
        exact k
  · rw [flatMap_if, List.nil_append]
    exact q
theorem ex_cast1 {d : Nat} {p : Nat → Prop} : (∃ K : Nat, (1 + (d : Int) = K) ∧ p K) = p (1 + d) := propext ⟨fun ⟨K, e, h⟩ => by
  have : K = 1 + d := by omega
  rwa [this] at h, fun h => ⟨1 + d, by omega, h⟩⟩
theorem neck_all : ∀ k < 3, ∀ n < 6, ¬ (k = 2 ∧ n = 5) → numN (1 + k) (1 + n) = (neckL (1 + k) (1 + n)).length := by decide +kernel
theorem neck_sum : ∀ k < 3, ∀ n < 12, ((divs (1 + n)).map fun (d : Nat) => (d : Int) * numN (1 + k) d).sum = (1 + (k : Int)) ^ (1 + n) := by decide +kernel
theorem pow_small : ∀ k : Nat, k < 3 → ∀ n : Nat, n < 13 → (1 + (k : Int)) ^ n < 600000 := by decide +kernel
theorem num_small : ∀ k < 3, ∀ n < 13, -600000 < numN (1 + k) n ∧ numN (1 + k) n < 600000 := by decide +kernel
def wb_law : WS :=
  (wSeq (wSet 2 (wOp wAdd (wC (.int 1)) (wCall (wN 2 wf__law_next) (wCons (wVar 1) (wCons (wC (.int 3)) wNil)))))
     (wSeq (wSet 3 (wOp wAdd (wC (.int 1)) (wCall (wN 2 wf__law_next) (wCons (wVar 1) (wCons (wOp wSub (wC (.int 6)) (wCB wInt (wCons (wOp (wEq false) (wVar 2) (wC (.int 3))) wNil))) wNil)))))
     (wSeq (wSet 4 (wCall (wN 2 wf_necklaces) (wCons (wVar 2) (wCons (wVar 3) wNil))))
     (wSeq (wIfS (wOr (wNot (wTru (wCall (wN 1 wf__law_is_integer) (wCons (wVar 4) wNil)))) (wB (wOp (wEq true) (wVar 4) (wCB wLen (wCons (wCall (wN 2 wf__law_necklaces) (wCons (wVar 2) (wCons (wVar 3) wNil))) wNil))))) (wRet (wC (.bl false))) wNext)
     (wSeq (wSet 3 (wOp wAdd (wC (.int 1)) (wCall (wN 2 wf__law_next) (wCons (wVar 1) (wCons (wC (.int 12)) wNil)))))
     (wSeq (wSet 5 (wC (.int 1)))
     (wSeq (wFor (wiRange1 (wCons (wVar 3) wNil)) (wgN 6) (wSet 5 (wOp wMul (wVar 5) (wVar 2))))
     (wRet (wOp (wEq false) (wCB wSum (wCons (wLc (wiRange2 (wCons (wC (.int 1)) (wCons (wOp wAdd (wVar 3) (wC (.int 1))) wNil))) [7] (wgN 7) (wB (wOp (wEq false) (wOp wMod (wVar 3) (wVar 7)) (wC (.int 0)))) (wOp wMul (wVar 7) (wCall (wN 2 wf_necklaces) (wCons (wVar 2) (wCons (wVar 7) wNil))))) wNil)) (wVar 5))))))))))

theorem law_hw : LawOk 8 wb_law := by
  simp [wDef, wSeq, wSet, wC, wKeep, keepA, wFor, wiRange1, wiRange2, wiRow, rowOf, wCons, wNil, wVar, look, wgN, wgTup, wgCons, wgNil, wAug, wAugAdd, wAugMul, wRet, wRetN, retA, wExpr, wIfS, wNext, wBreak, wCont, wOp, wII, wAdd, wSub, wMul, wMod, wDiv, wNeg, wEq, wIn, wIsN, wCmp, cmpI, cmpS, wChain, wB, wTru, truth, szOk, wAnd, wOr, wNot, wAndV, wOrV, wNotV, wIf, wTup, wLst, fzAll, fz1, wIx, wSl, wNo, wYes, SyP.part, wCB, wLen, lenP, wListOf, wTupOf, itemsP, wBools, wSum, wMax, wMin, wMinS, wM2, wInt, intOf, wIsi, isTy, wCall, wN, wM1, kAppend, kExtend, kPopAt, wPop, wAsg, wLc, wTrue, wTurn, wipeE, wLc2, wTurn2, wRaise, wSetIx, wStarts, wEnds, wStr2, wJoin, wSIndex, wLenSet, frzS, fl_int, fl_bl, fl_non, fl_str, eqp_int, eqp_str, lt_len, lt_app, lt_inj, cutS_lt, cutL_to, cutL_from, cutL_mid, rgI_length, Int.natCast_inj, sizeLine_eq, strOk_lt, and_assoc, LawOk, wb_law, wf__law_next, wf_necklaces, wf__law_is_integer, wf__law_necklaces, ex_cast1, okV, isI]
  intro k hk
  refine ⟨by split <;> omega, by split <;> omega, fun n hn => ⟨by omega, by split at hn <;> omega, by omega, by split at hn <;> omega, neck_all k (by omega) n (by split at hn <;> omega) (by split at hn <;> omega), fun d hd => ⟨⟨by omega, by omega⟩, ?_⟩⟩⟩
  rw [show (1 + (d : Int)).toNat = 1 + d by omega]
  refine wLoop_by (fun j ρ => ∃ x : Option AV, ρ = [none, some (.fz .strm), some (.fz (.int (1 + (k : Int)))), some (.fz (.int (1 + (d : Int)))), some (.fz (.int (numN (1 + k) (1 + n)))), some (.fz (.int ((1 + (k : Int)) ^ j))), x, none]) ⟨none, rfl⟩ ?_ ?_
  · rintro j x ρ N hx ⟨y, rfl⟩ hN
    have hj : j < 1 + d := by
      have := (List.getElem?_eq_some_iff.mp hx).1
      rwa [rgI_length] at this
    have h1 := pow_small k (by omega) j (by omega)
    have h0 : 0 ≤ (1 + (k : Int)) ^ j := Int.pow_nonneg (by omega)
    simp [wDef, wSeq, wSet, wC, wKeep, keepA, wFor, wiRange1, wiRange2, wiRow, rowOf, wCons, wNil, wVar, look, wgN, wgTup, wgCons, wgNil, wAug, wAugAdd, wAugMul, wRet, wRetN, retA, wExpr, wIfS, wNext, wBreak, wCont, wOp, wII, wAdd, wSub, wMul, wMod, wDiv, wNeg, wEq, wIn, wIsN, wCmp, cmpI, cmpS, wChain, wB, wTru, truth, szOk, wAnd, wOr, wNot, wAndV, wOrV, wNotV, wIf, wTup, wLst, fzAll, fz1, wIx, wSl, wNo, wYes, SyP.part, wCB, wLen, lenP, wListOf, wTupOf, itemsP, wBools, wSum, wMax, wMin, wMinS, wM2, wInt, intOf, wIsi, isTy, wCall, wN, wM1, kAppend, kExtend, kPopAt, wPop, wAsg, wLc, wTrue, wTurn, wipeE, wLc2, wTurn2, wRaise, wSetIx, wStarts, wEnds, wStr2, wJoin, wSIndex, wLenSet, frzS, fl_int, fl_bl, fl_non, fl_str, eqp_int, eqp_str, lt_len, lt_app, lt_inj, cutS_lt, cutL_to, cutL_from, cutL_mid, rgI_length, Int.natCast_inj, sizeLine_eq, strOk_lt, and_assoc]
    refine ⟨.inr ⟨by omega, by omega⟩, hN _ ⟨_, by rw [Int.pow_succ]⟩⟩
  · rintro ρ ⟨y, rfl⟩
    simp [wDef, wSeq, wSet, wC, wKeep, keepA, wFor, wiRange1, wiRange2, wiRow, rowOf, wCons, wNil, wVar, look, wgN, wgTup, wgCons, wgNil, wAug, wAugAdd, wAugMul, wRet, wRetN, retA, wExpr, wIfS, wNext, wBreak, wCont, wOp, wII, wAdd, wSub, wMul, wMod, wDiv, wNeg, wEq, wIn, wIsN, wCmp, cmpI, cmpS, wChain, wB, wTru, truth, szOk, wAnd, wOr, wNot, wAndV, wOrV, wNotV, wIf, wTup, wLst, fzAll, fz1, wIx, wSl, wNo, wYes, SyP.part, wCB, wLen, lenP, wListOf, wTupOf, itemsP, wBools, wSum, wMax, wMin, wMinS, wM2, wInt, intOf, wIsi, isTy, wCall, wN, wM1, kAppend, kExtend, kPopAt, wPop, wAsg, wLc, wTrue, wTurn, wipeE, wLc2, wTurn2, wRaise, wSetIx, wStarts, wEnds, wStr2, wJoin, wSIndex, wLenSet, frzS, fl_int, fl_bl, fl_non, fl_str, eqp_int, eqp_str, lt_len, lt_app, lt_inj, cutS_lt, cutL_to, cutL_from, cutL_mid, rgI_length, Int.natCast_inj, sizeLine_eq, strOk_lt, and_assoc, wf_necklaces, ex_cast1]
    rw [show (1 + (d : Int)).toNat = 1 + d by omega, show rgI 1 (1 + d) = _ from rgI_nat 1 (1 + d)]
    refine ⟨⟨by omega, by omega⟩, ⟨by omega, by omega⟩, by omega, wColl_fm (fun i : Nat => PV.int ((1 + i : Nat) : Int)) (fun i => if decide ((1 + d) % (1 + i) = 0) = true then [PV.int (((1 + i : Nat) : Int) * numN (1 + k) (1 + i))] else []) (fun i hi Kk q => ?_) ?_⟩
    · have hi := List.mem_range.mp hi
      simp [wDef, wSeq, wSet, wC, wKeep, keepA, wFor, wiRange1, wiRange2, wiRow, rowOf, wCons, wNil, wVar, look, wgN, wgTup, wgCons, wgNil, wAug, wAugAdd, wAugMul, wRet, wRetN, retA, wExpr, wIfS, wNext, wBreak, wCont, wOp, wII, wAdd, wSub, wMul, wMod, wDiv, wNeg, wEq, wIn, wIsN, wCmp, cmpI, cmpS, wChain, wB, wTru, truth, szOk, wAnd, wOr, wNot, wAndV, wOrV, wNotV, wIf, wTup, wLst, fzAll, fz1, wIx, wSl, wNo, wYes, SyP.part, wCB, wLen, lenP, wListOf, wTupOf, itemsP, wBools, wSum, wMax, wMin, wMinS, wM2, wInt, intOf, wIsi, isTy, wCall, wN, wM1, kAppend, kExtend, kPopAt, wPop, wAsg, wLc, wTrue, wTurn, wipeE, wLc2, wTurn2, wRaise, wSetIx, wStarts, wEnds, wStr2, wJoin, wSIndex, wLenSet, frzS, fl_int, fl_bl, fl_non, fl_str, eqp_int, eqp_str, lt_len, lt_app, lt_inj, cutS_lt, cutL_to, cutL_from, cutL_mid, rgI_length, Int.natCast_inj, sizeLine_eq, strOk_lt, and_assoc, ex_cast1]
      have e2 : ((1 + (d : Int)) % (1 + (i : Int)) = 0) ↔ (1 + d) % (1 + i) = 0 := by
        rw [show (1 + (i : Int)) = ((1 + i : Nat) : Int) by omega, show (1 + (d : Int)) = ((1 + d : Nat) : Int) by omega, ← Int.natCast_emod]
        exact Int.natCast_eq_zero
      refine ⟨by omega, ?_⟩
      have hm := num_small k (by omega) (1 + i) (by omega)
      by_cases c : (1 + d) % (1 + i) = 0
      · have c' := e2.mpr c
        simp [c, c'] at q ⊢
        refine ⟨1 + k, 1 + i, by simp, by omega, by omega, by omega, by omega, ?_⟩
        show _ ∧ _
        exact ⟨.inr ⟨by omega, by omega⟩, q⟩
      · have c' : ¬ ((1 + (d : Int)) % (1 + (i : Int)) = 0) := fun z => c (e2.mp z)
        simp [c, c'] at q ⊢
        exact q
    · rw [flatMap_if, List.nil_append]
      have e : ((List.range (1 + d)).filter fun i => decide ((1 + d) % (1 + i) = 0)).map (fun i => PV.int (((1 + i : Nat) : Int) * numN (1 + k) (1 + i))) = ((divs (1 + d)).map fun (d : Nat) => (d : Int) * numN (1 + k) d).map PV.int := by
        have h := congrArg (List.map fun p : PV => match p with | .int i => PV.int (i * numN (1 + k) i.toNat) | p => p) (divs_map (1 + d))
        rw [List.map_map, List.map_map] at h
        rw [List.map_map]
        have e1 : (fun i : Nat => PV.int (((1 + i : Nat) : Int) * numN (1 + k) (1 + i))) = (fun p : PV => match p with | .int i => PV.int (i * numN (1 + k) i.toNat) | p => p) ∘ fun i : Nat => PV.int ((1 + i : Nat) : Int) := funext fun i => by
          simp only [Function.comp_apply, Int.toNat_natCast]
        rw [e1, h]
        exact List.map_congr_left fun i _ => by simp only [Function.comp_apply, Int.toNat_natCast]
      rw [e]
      exact ⟨_, rfl, neck_sum k (by omega) d (by omega)⟩
end Sy
namespace Sy
open PySem PySem.Spec PyProof.Rows L2 SyP
def topS (i : Nat) : Stmt := PySem.Challenge.pw_syncedwords_k44_whole_necklaces.main.body.getD i (.Pass ⟨0, 0, 0, 0⟩)
open C8 (pss_cut tCut)
abbrev sStream : Stmt := topS 17
abbrev sNext : Stmt := topS 18
theorem scStream : FnScope ["script"] ["script"] (defScope sStream) := ⟨rfl, rfl, rfl, by decide +kernel, rfl, by decide +kernel, by decide +kernel⟩
theorem scNext : FnScope ["stream", "many", "k", "cell", "digit"] ["stream", "many"] (defScope sNext) := ⟨rfl, rfl, rfl, by decide +kernel, rfl, by decide +kernel, by decide +kernel⟩

theorem Strm.at {l s : Addr} {H : Hp} (h : Strm l H s) : ∃ o, H s = some o := ⟨_, h.2.choose_spec.choose_spec.choose_spec.2.2.1⟩
theorem Strm.new {l s p : Addr} {H : Hp} {o : HO} (h : Strm l H s) (n : H p = none) : Strm l (upd H p o) s := by
  obtain ⟨ne, ns, x, k, h1, h2, h3, h4⟩ := h
  exact ⟨ne, ns, x, k, by rw [upd_ne (ne_of_none h1 n)]; exact h1, h2, by rw [upd_ne (ne_of_none h3 n)]; exact h3, h4⟩
theorem Strm.put {l s p : Addr} {H : Hp} {o : HO} (h : Strm l H s) (n1 : p ≠ s) (n2 : p ≠ l) : Strm l (upd H p o) s := by
  obtain ⟨ne, ns, x, k, h1, h2, h3, h4⟩ := h
  exact ⟨ne, ns, x, k, by rw [upd_ne n2.symm]; exact h1, h2, by rw [upd_ne n1.symm]; exact h3, h4⟩

def spNext : Sp := fun vs H Q _ => ∃ (l s : Addr) (m : Int), vs = [.ref s, .int m] ∧ Strm l H s ∧ 0 < m ∧ m < 1073741824 ∧ ∀ d H', 0 ≤ d → d < m → Keep s H H' → Strm l H' s → Q (.int d) H'

section
variable {P : Program} {w : World} {K : PySem.W.Frag} {mg : Str → Option Value} {base : Heap}
theorem ok_stream {f : Addr} {fd : FuncData} (F : Fun K "_law_stream" "_law_stream" sStream f fd) (ml : mg "list" = none) : FnOk P w K mg base CX0 1 f fd ["script"] (spStream K) := by
  refine F.ok scStream (fun vs H Q E h => ?_) (fun cdv A outer s H vs Q E hr h => ?_)
  · obtain ⟨a, ns, rfl, _⟩ := h
    rfl
  · obtain ⟨a, ns, rfl, hS, hl, q⟩ := h
    refine ⟨_, pss_one (ps_ret (pe_lst (pa_cons (pe_callTy call_list_of (by rfl) ml (by decide +kernel) (pa_cons (pv 0) pa_nil)) (pa_cons pe_int (pa_cons pe_int pa_nil))))), ?_⟩
    refine ⟨_, rfl, a, _, rfl, .inl hS, fun l hl0 => ⟨(by show 3 ≤ sizeLine; decide), fun p hp => ?_⟩⟩
    have nlp : l ≠ p := fun e => by
      rw [← e, upd_same] at hp
      cases hp
    have hp0 : H p = none := by
      rw [upd_ne nlp.symm] at hp
      exact hp
    exact q l p _ (Same.new (Same.new (Same.refl H) hl0) hp) hp0 hl0 ⟨nlp, ns, 0, 0, by rw [upd_ne nlp, upd_same], hl, upd_same, Int.le_refl _, Int.le_refl _⟩

theorem ok_next {f : Addr} {fd : FuncData} (F : Fun K "_law_next" "_law_next" sNext f fd) (ml : mg "len" = none) (ma : mg "abs" = none) (mi : mg "int" = none) : FnOk P w K mg base CX0 1 f fd ["stream", "many"] spNext := by
  refine F.ok scNext (fun vs H Q E h => ?_) (fun cdv A outer s H vs Q E hr h => ?_)
  · obtain ⟨l, s, m, rfl, _⟩ := h
    rfl
  · obtain ⟨l, p, m, rfl, hst, hm0, hm1, q⟩ := h
    refine ⟨_, pss_cut (ps_if (pt_cmpR op_eq (pe_ix ix_list (pv 0) pe_int (fun _ _ => rfl)) pe_int (nomark _))
        (pss_cons (ps_set (i := 2) scNext.nd rfl (.inl rfl) (pe_ix ix_list (pv 0) pe_int (fun _ _ => rfl)))
        (pss_cons (ps_set (i := 3) scNext.nd rfl (.inl rfl) (pe_op op_add pe_int (pv 2)))
        (pss_cut (ps_if (pt_cmpR op_lt (pv 2) (pe_callB call_len_seq (by rfl) ml PySem.boot_len (pa_cons (pe_ix ix_list (pv 0) pe_int (fun _ _ => rfl)) pa_nil)) (nomark _))
          (pss_one (ps_set (i := 3) scNext.nd rfl (.inl rfl) (pe_callB call_abs (by rfl) ma (by decide +kernel) (pa_cons (pe_ix ix_list (pe_ix ix_list (pv 0) pe_int (fun _ _ => rfl)) (pv 2) (fun _ _ => rfl)) pa_nil)))) pss_nil)
        (pss_cut (ps_if (pt_cmpR op_lt (pv 3) (pe_op op_pow pe_int pe_int) (nomark _))
          (pss_cons (ps_set (i := 3) scNext.nd rfl (.inl rfl) (pe_op op_mod (pe_callTy call_int1 (by rfl) mi (by decide +kernel) (pa_cons (pe_op op_add (pe_op op_add (pe_op op_mul (pv 3) pe_int) (pe_op op_mul (pv 2) pe_int)) pe_int) pa_nil)) pe_int))
          (pss_one (ps_set (i := 3) scNext.nd rfl (.inl rfl) (pe_op op_add (pe_op op_mul (pe_op op_mod (pe_callTy call_int1 (by rfl) mi (by decide +kernel) (pa_cons (pe_op op_add (pe_op op_mul (pv 3) pe_int) pe_int) pa_nil)) pe_int) pe_int) (pv 3))))) pss_nil)
        (pss_cons (ps_asg (pv 3) (pg_sub (pv 0) pe_int set_list))
        (pss_one (ps_asg (pe_op op_add (pv 2) pe_int) (pg_sub (pv 0) pe_int set_list))))))))
        pss_nil)
      (pss_cons (ps_set (i := 4) scNext.nd rfl (.inl rfl) (pe_op op_mod (pe_callTy call_int1 (by rfl) mi (by decide +kernel) (pa_cons (pe_ix ix_list (pv 0) pe_int (fun _ _ => rfl)) pa_nil)) (pv 1)))
      (pss_cons (ps_asg (pe_op op_fdivN (pe_ix ix_list (pv 0) pe_int (fun _ _ => rfl)) (pv 1)) (pg_sub (pv 0) pe_int set_list))
      (pss_one (ps_ret (pv 4))))), ?_⟩
    obtain ⟨ne, ns, x, k, h1, h2, h3, hx, hk⟩ := hst
    have S3 : SqL K H p [.ref l, .int x, .int k] := SqL.of h3
    refine ⟨fun σ' H' => Keep p H H' ∧ Strm l H' p ∧ ∃ y2 y3 y4, σ' = [some (.ref p), some (.int m), y2, y3, y4], ?_, ?_⟩
    · refine ⟨_, rfl, p, _, 1, .int x, rfl, rfl, S3, atI_nat (j := 1) rfl, rfl, _, rfl, ite2 (fun _ => ?_) (fun _ => ?_)⟩
      · refine ⟨_, rfl, p, _, 2, .int k, rfl, rfl, S3, atI_nat (j := 2) rfl, ?_⟩
        refine ⟨_, rfl, 7, k, rfl, rfl, ?_⟩
        refine ⟨fun σ' H' => H = H' ∧ ∃ c : Int, 0 ≤ c ∧ σ' = [some (.ref p), some (.int m), some (.int k), some (.int c), none], ?_, ?_⟩
        · refine ⟨_, rfl, _, rfl, p, _, 0, .ref l, rfl, rfl, S3, atI_nat (j := 0) rfl, l, _, rfl, .inl (SqL.of h1), k, _, rfl, rfl, _, rfl, ite2 (fun e => ?_) (fun _ => ?_)⟩
          · have hlt := of_decide_eq_true e
            rw [List.length_map] at hlt
            have hj : k.toNat < ns.length := by omega
            have ek : k = ((k.toNat : Nat) : Int) := by omega
            have g : (ns.map V.int)[k.toNat]? = some (.int ns[k.toNat]) := by
              rw [List.getElem?_map, List.getElem?_eq_getElem hj]
              rfl
            refine ⟨_, rfl, p, _, 0, .ref l, rfl, rfl, S3, atI_nat (j := 0) rfl, _, rfl, l, _, k, _, rfl, rfl, SqL.of h1, at_of ek g, _, rfl, rfl, _, ?_, rfl⟩
            split <;> omega
          · exact ⟨rfl, _, by omega, rfl⟩
        · rintro σ' H' ⟨rfl, c, hc, rfl⟩
          refine ⟨fun σ' H' => H = H' ∧ ∃ c : Int, 0 ≤ c ∧ σ' = [some (.ref p), some (.int m), some (.int k), some (.int c), none], ?_, ?_⟩
          · refine ⟨_, rfl, 10, 18, rfl, rfl, ⟨by decide, by decide, by decide⟩, c, _, rfl, rfl, _, rfl, ite2 (fun _ => ?_) (fun _ => ⟨rfl, c, hc, rfl⟩)⟩
            refine ⟨_, rfl, c, 48271, rfl, rfl, .inr ⟨by decide, by decide⟩, _, rfl, k, 69621, rfl, rfl, .inr ⟨by decide, by decide⟩, _, _, rfl, rfl, _, _, rfl, rfl, .inl ⟨_, rfl, _, _, rfl, rfl, (by show (0 : Int) < 2147483647; decide), ?_⟩⟩
            refine ⟨_, rfl, _, 16807, rfl, rfl, .inr ⟨by decide, by decide⟩, _, _, rfl, rfl, .inl ⟨_, rfl, _, _, rfl, rfl, (by show (0 : Int) < 2147483647; decide), _, _, rfl, rfl, .inr ⟨by decide, by decide⟩, _, rfl, _, _, rfl, rfl, ?_⟩⟩
            refine ⟨rfl, _, ?_, rfl⟩
            have m1 := Int.emod_nonneg (c * 48271 + k * 69621 + 11) (show (2147483647 : Int) ≠ 0 by decide)
            have m2 := Int.emod_nonneg ((c * 48271 + k * 69621 + 11) % 2147483647 * 16807 + 13) (show (2147483647 : Int) ≠ 0 by decide)
            omega
          · rintro σ' H' ⟨rfl, c, hc, rfl⟩
            refine ⟨_, rfl, _, rfl, p, _, 1, 1, rfl, rfl, h3, rfl, ?_⟩
            refine ⟨_, rfl, k, 1, rfl, rfl, _, rfl, p, _, 2, 2, rfl, rfl, upd_same, rfl, ?_⟩
            refine ⟨(Keep.refl _).put.put, ⟨ne, ns, c, k + 1, ?_, h2, upd_same, hc, by omega⟩, _, _, _, rfl⟩
            rw [upd_ne ne, upd_ne ne]
            exact h1
      · exact ⟨Keep.refl _, ⟨ne, ns, x, k, h1, h2, h3, hx, hk⟩, _, _, _, rfl⟩
    · rintro σ' H' ⟨kp, ⟨_, ns, x, k, h1, h2, h3, hx, hk⟩, y2, y3, y4, rfl⟩
      have S3 : SqL K H' p [.ref l, .int x, .int k] := SqL.of h3
      refine ⟨_, rfl, p, _, 1, .int x, rfl, rfl, S3, atI_nat (j := 1) rfl, .inl ⟨x, rfl, _, rfl, x, m, rfl, rfl, hm0, ?_⟩⟩
      refine ⟨_, rfl, p, _, 1, .int x, rfl, rfl, S3, atI_nat (j := 1) rfl, _, rfl, x, m, rfl, rfl, ⟨by omega, by omega⟩, ?_⟩
      refine ⟨_, rfl, p, _, 1, 1, rfl, rfl, h3, rfl, _, rfl, ?_⟩
      refine q _ _ (Int.emod_nonneg _ (by omega)) (Int.emod_lt_of_pos _ hm0) kp.put ⟨ne, ns, x.fdiv m, k, by rw [upd_ne ne]; exact h1, h2, upd_same, ?_, hk⟩
      rw [Int.fdiv_eq_ediv_of_nonneg _ (by omega)]
      exact Int.ediv_nonneg hx (by omega)
/-- what raises nothing, among defs that raise -/
theorem FnOk.toX {k : Nat} {f : Addr} {fd : FuncData} {ps : List Str} {sp : Sp} (F : FnOk P w K mg base CX0 k f fd ps sp) : FnOk P w K mg base (L2.CX P w) k f fd ps sp :=
  ⟨F.len, fun A outer s H args us vs Q E hr he hb hv hs => codeAny_mono (F.run A outer s H args us vs Q E hr he hb hv hs) fun r s' h => by
    cases r with
    | error e => exact h.elim
    | ok fl => cases fl <;> exact h⟩
/-- a number of the stream, as a pure promise -/
theorem has_next {f : Addr} {fd : FuncData} (F : Fun K "_law_next" "_law_next" sNext f fd) (hm : mg "_law_next" = some (.ref f)) (hb : Binds K fd ["stream", "many"] []) (NB : NoB mg) : HasF P w K mg base 1 "_law_next" ["stream", "many"] wf__law_next :=
  has_of F hm hb ((FnOk.toX (ok_next F (NB "len" (by decide)) (NB "abs" (by decide)) (NB "int" (by decide)))).imp fun vs H Q E h => by
    obtain ⟨G, ps, Q', E', rfl, sk, so, od, r, hl, ⟨m, rfl, h0, h1, q⟩, qr, qe⟩ := h
    unfold Reps Reps Reps at r
    obtain ⟨v1, _, rfl, r1, v2, _, rfl, r2, rfl⟩ := r
    unfold Rep at r1 r2
    obtain ⟨l, s, hs, rfl⟩ := r1
    subst r2
    refine ⟨l, s, m, rfl, sk l s hs, h0, h1, fun d H' hd0 hd1 kp st => ?_⟩
    refine qr _ (q d.toNat (by omega)) _ _ ⟨fun b o n e => kp b o (n l s hs) e, fun l2 s2 e => ?_, ?_⟩
    · rw [hs] at e
      cases e
      exact st
    · show Rep K G.sa (msk G.O H') (.int d.toNat) (.int d)
      unfold Rep
      rw [Int.toNat_of_nonneg hd0])
end

abbrev sBadValueInit : Stmt := inClass (topS 2) 0
theorem scBadValueInit : FnScope ["self", "name"] ["self", "name"] (defScope sBadValueInit) := ⟨rfl, rfl, rfl, by decide +kernel, rfl, by decide +kernel, by decide +kernel⟩
theorem ok_BadValueinit {P : Program} {w : World} {K : PySem.W.Frag} {mg : Str → Option Value} {base : Heap} {f C : Addr} {fd : FuncData} (F : Fun K "__init__" "BadValue.__init__" sBadValueInit f fd) (T : OexC K C) (no : PySem.W.findIn K (.ref C) "name" = some none) : FnOk P w K mg base CX0 1 f fd ["self", "name"] (spXi C "name") := by
  refine F.ok scBadValueInit (fun vs H Q E h => ?_) (fun cdv A outer s H vs Q E hr h => ?_)
  · obtain ⟨a, v, rfl, _⟩ := h
    rfl
  · obtain ⟨a, v, rfl, ha, q⟩ := h
    exact ⟨_, pss_one (ps_ost (pv 0) (pv 1)), _, rfl, _, rfl, a, C, rfl, T, no, .inl ⟨ha, fun dx h1 h2 => q dx h1 h2⟩⟩

abbrev s_is_integer : Stmt := topS 4
abbrev n_is_integer : List Str := ["value"]
theorem sc_is_integer : FnScope n_is_integer ["value"] (defScope s_is_integer) := ⟨rfl, rfl, rfl, by decide +kernel, rfl, by decide +kernel, by decide +kernel⟩
set_option maxHeartbeats 1000000 in
theorem ok_is_integer {P : Program} {w : World} {K : PySem.W.Frag} {mg : Str → Option Value} {base : Heap} {f : Addr} {fd : FuncData} (F : Fun K "is_integer" "is_integer" s_is_integer f fd) (NB : NoB mg)  :
    FnOk P w K mg base (L2.CX P w) 1 f fd ["value"] (spW (CC.of K mg) 1 wr_is_integer) :=
  def_ok F sc_is_integer fun cdv A outer s H E hr =>
    (qss_one (qs_ret (qe_and (qe_isi (T := "int") (by decide) rfl (by rfl) (NB "isinstance" (by decide)) (qe_var (pv 0)) (pe_bltn (v := .ty "int") (by rfl) (NB "int" (by decide)) (by decide +kernel) rfl)) (qe_one (qe_not (qe_isi (T := "bool") (by decide) rfl (by rfl) (NB "isinstance" (by decide)) (qe_var (pv 0)) (pe_bltn (v := .ty "bool") (by rfl) (NB "bool" (by decide)) (by decide +kernel) rfl)))))))

abbrev s_is_number : Stmt := topS 5
abbrev n_is_number : List Str := ["value", "least", "most"]
theorem sc_is_number : FnScope n_is_number ["value", "least", "most"] (defScope s_is_number) := ⟨rfl, rfl, rfl, by decide +kernel, rfl, by decide +kernel, by decide +kernel⟩
set_option maxHeartbeats 1000000 in
theorem ok_is_number {P : Program} {w : World} {K : PySem.W.Frag} {mg : Str → Option Value} {base : Heap} {f : Addr} {fd : FuncData} (F : Fun K "is_number" "is_number" s_is_number f fd) (NB : NoB mg) (h_is_integer : HasF P w K mg base 1 "is_integer" ["value"] wf_is_integer) :
    FnOk P w K mg base (L2.CX P w) 2 f fd ["value", "least", "most"] (spW (CC.of K mg) 3 wr_is_number) :=
  def_ok F sc_is_number fun cdv A outer s H E hr =>
    (qss_one (qs_ret (qe_and (qe_f h_is_integer rfl ⟨rfl, rfl⟩ (hr.mono (by decide)) (by rfl) (passes_E (takes_of rfl rfl rfl rfl)) (qa_cons (qe_var (pv 0)) qa_nil)) (qe_one (qe_chain oi_le oi_le (qe_var (pv 1)) (qe_var (pv 0)) (qe_var (pv 2)))))))

abbrev s_check_number : Stmt := topS 6
abbrev n_check_number : List Str := ["value", "least", "most", "name"]
theorem sc_check_number : FnScope n_check_number ["value", "least", "most", "name"] (defScope s_check_number) := ⟨rfl, rfl, rfl, by decide +kernel, rfl, by decide +kernel, by decide +kernel⟩
set_option maxHeartbeats 1000000 in
theorem ok_check_number {P : Program} {w : World} {K : PySem.W.Frag} {mg : Str → Option Value} {base : Heap} {f : Addr} {fd : FuncData} (F : Fun K "check_number" "check_number" s_check_number f fd) (NB : NoB mg) (h_is_number : HasF P w K mg base 2 "is_number" ["value", "least", "most"] wf_is_number) {A_BadValue : Addr} (z_BadValue : Xc P w K mg base "BadValue" "name" A_BadValue) :
    FnOk P w K mg base (L2.CX P w) 3 f fd ["value", "least", "most", "name"] (spW (CC.of K mg) 4 wr_check_number) :=
  def_ok F sc_check_number fun cdv A outer s H E hr =>
    (qss_one (qs_if (qt_not (qt_val (qe_f h_is_number rfl ⟨rfl, rfl⟩ (hr.mono (by decide)) (by rfl) (passes_E (takes_of rfl rfl rfl rfl)) (qa_cons (qe_var (pv 0)) (qa_cons (qe_var (pv 1)) (qa_cons (qe_var (pv 2)) qa_nil)))) rfl (by intro _; rfl))) (qss_one (qs_raise z_BadValue rfl rfl (takes_of rfl rfl rfl rfl) (hr.mono (by decide)) (qe_var (pv 3)))) qss_nil))

abbrev s_check_size : Stmt := topS 10
abbrev n_check_size : List Str := ["size"]
theorem sc_check_size : FnScope n_check_size ["size"] (defScope s_check_size) := ⟨rfl, rfl, rfl, by decide +kernel, rfl, by decide +kernel, by decide +kernel⟩
set_option maxHeartbeats 1000000 in
theorem ok_check_size {P : Program} {w : World} {K : PySem.W.Frag} {mg : Str → Option Value} {base : Heap} {f : Addr} {fd : FuncData} (F : Fun K "check_size" "check_size" s_check_size f fd) (NB : NoB mg) (h_check_number : HasF P w K mg base 3 "check_number" ["value", "least", "most", "name"] wf_check_number) (c_MOST_SIZE : CI mg "MOST_SIZE" 3) :
    FnOk P w K mg base (L2.CX P w) 4 f fd ["size"] (spW (CC.of K mg) 1 wr_check_size) :=
  def_ok F sc_check_size fun cdv A outer s H E hr =>
    (qss_one (qs_expr (qe_f h_check_number rfl ⟨rfl, rfl⟩ (hr.mono (by decide)) (by rfl) (passes_E (takes_of rfl rfl rfl rfl)) (qa_cons (qe_var (pv 0)) (qa_cons qe_int (qa_cons (qe_gI c_MOST_SIZE (by rfl)) (qa_cons qe_str qa_nil)))))))

abbrev s_moebius : Stmt := topS 12
abbrev n_moebius : List Str := ["number", "sign", "left", "prime"]
theorem sc_moebius : FnScope n_moebius ["number"] (defScope s_moebius) := ⟨rfl, rfl, rfl, by decide +kernel, rfl, by decide +kernel, by decide +kernel⟩
set_option maxHeartbeats 1000000 in
theorem ok_moebius {P : Program} {w : World} {K : PySem.W.Frag} {mg : Str → Option Value} {base : Heap} {f : Addr} {fd : FuncData} (F : Fun K "moebius" "moebius" s_moebius f fd) (NB : NoB mg)  :
    FnOk P w K mg base (L2.CX P w) 1 f fd ["number"] (spW (CC.of K mg) 1 wr_moebius) :=
  def_ok F sc_moebius fun cdv A outer s H E hr =>
    (qss_cons (qs_set (i := 1) sc_moebius.nd rfl (.inl rfl) qe_int)
     (qss_cons (qs_set (i := 2) sc_moebius.nd rfl (.inl rfl) (qe_var (pv 0)))
     (qss_cons (qs_for (passes_of rfl) rfl (qi_range2 (by rfl) (NB "range" (by decide)) (qa_cons qe_int (qa_cons (qe_op o2_add op_addP (qe_var (pv 0)) qe_int) qa_nil))) (qg_name (pg_name (i := 3) sc_moebius.nd rfl (Or.inl rfl))) (qss_one (qs_if (qt_cmp o2_eq (op_eqD hr.units) (qe_op o2_mod op_mod (qe_var (pv 2)) (qe_var (pv 3))) qe_int (nomark _)) (qss_cons (qs_set (i := 2) sc_moebius.nd rfl (.inl rfl) (qe_op o2_div op_fdiv (qe_var (pv 2)) (qe_var (pv 3))))
         (qss_cons (qs_set (i := 1) sc_moebius.nd rfl (.inl rfl) (qe_neg (qe_var (pv 1))))
         (qss_one (qs_if (qt_cmp o2_eq (op_eqD hr.units) (qe_op o2_mod op_mod (qe_var (pv 2)) (qe_var (pv 3))) qe_int (nomark _)) (qss_one (qs_ret qe_int)) qss_nil)))) qss_nil)))
     (qss_one (qs_ret (qe_var (pv 1)))))))

abbrev s_primitive_rings : Stmt := topS 13
abbrev n_primitive_rings : List Str := ["around", "length", "divisors", "divisor"]
theorem sc_primitive_rings : FnScope n_primitive_rings ["around", "length"] (defScope s_primitive_rings) := ⟨rfl, rfl, rfl, by decide +kernel, rfl, by decide +kernel, by decide +kernel⟩
set_option maxHeartbeats 1000000 in
theorem ok_primitive_rings {P : Program} {w : World} {K : PySem.W.Frag} {mg : Str → Option Value} {base : Heap} {f : Addr} {fd : FuncData} (F : Fun K "primitive_rings" "primitive_rings" s_primitive_rings f fd) (NB : NoB mg) (h_moebius : HasF P w K mg base 1 "moebius" ["number"] wf_moebius) :
    FnOk P w K mg base (L2.CX P w) 2 f fd ["around", "length"] (spW (CC.of K mg) 2 wr_primitive_rings) :=
  def_ok F sc_primitive_rings fun cdv A outer s H E hr =>
    (qss_cons (qs_setLc (i := 2) rfl sc_primitive_rings.nd rfl rfl (sw_true rfl rfl rfl (by decide +kernel)) (qi_range2 (by rfl) (NB "range" (by decide)) (qa_cons qe_int (qa_cons (qe_op o2_add op_addP (qe_var (pv 1)) qe_int) qa_nil))) (blkOk_by (own := [("divisor", 3)]) (N := n_primitive_rings) (sc := defScope s_primitive_rings) (by decide +kernel)) rfl (by decide) (fun _ _ _ _ _ => (qg_name (pg_name (i := 3) sc_primitive_rings.nd rfl (Or.inl rfl)))) (fun _ _ _ _ _ => (qts_one (qt_cmp o2_eq (op_eqD hr.units) (qe_op o2_mod op_mod (qe_var (pv 1)) (qe_var (pv 3))) qe_int (nomark _)))) (fun _ _ _ _ _ => (qe_var (pv 3))))
     (qss_one (qs_ret (qe_op o2_div op_fdiv (qe_callB cp_sum (cr_sum rfl) (by rfl) (NB "sum" (by decide)) (by decide +kernel) (qa_cons (qe_lc rfl sc_primitive_rings.nd (qi_row rfl (qe_var (pv 2))) (blkOk_by (own := [("divisor", 3)]) (N := n_primitive_rings) (sc := defScope s_primitive_rings) (by decide +kernel)) rfl (by decide) (fun _ _ _ _ _ => (qg_name (pg_name (i := 3) sc_primitive_rings.nd rfl (Or.inl rfl)))) (fun _ _ _ _ _ => qts_nil) (fun _ _ _ _ _ => (qe_op o2_mul op_mulP (qe_f h_moebius rfl ⟨rfl, rfl⟩ (hr.mono (by decide)) (by rfl) passes_no (qa_cons (qe_var (pv 3)) qa_nil)) (qe_ix rfl (qe_var (pv 0)) (qe_op o2_div op_fdiv (qe_var (pv 1)) (qe_var (pv 3))) (fun _ _ => rfl))))) qa_nil)) (qe_var (pv 1))))))

abbrev s_power : Stmt := topS 11
abbrev n_power : List Str := ["base", "many", "result", "_"]
theorem sc_power : FnScope n_power ["base", "many"] (defScope s_power) := ⟨rfl, rfl, rfl, by decide +kernel, rfl, by decide +kernel, by decide +kernel⟩
set_option maxHeartbeats 1000000 in
theorem ok_power {P : Program} {w : World} {K : PySem.W.Frag} {mg : Str → Option Value} {base : Heap} {f : Addr} {fd : FuncData} (F : Fun K "power" "power" s_power f fd) (NB : NoB mg)  :
    FnOk P w K mg base (L2.CX P w) 1 f fd ["base", "many"] (spW (CC.of K mg) 2 wr_power) :=
  def_ok F sc_power fun cdv A outer s H E hr =>
    (qss_cons (qs_set (i := 2) sc_power.nd rfl (.inl rfl) qe_int)
     (qss_cons (qs_for (passes_of rfl) rfl (qi_range1 (by rfl) (NB "range" (by decide)) (qa_cons (qe_var (pv 1)) qa_nil)) (qg_name (pg_name (i := 3) sc_power.nd rfl (Or.inl rfl))) (qss_one (qs_aug (i := 2) o2_augMul sc_power.nd rfl (.inl rfl) (qe_var (pv 0)) iop_mul)))
     (qss_one (qs_ret (qe_var (pv 2))))))

abbrev s_count_rings : Stmt := topS 14
abbrev n_count_rings : List Str := ["size", "length", "many"]
theorem sc_count_rings : FnScope n_count_rings ["size", "length"] (defScope s_count_rings) := ⟨rfl, rfl, rfl, by decide +kernel, rfl, by decide +kernel, by decide +kernel⟩
set_option maxHeartbeats 1000000 in
theorem ok_count_rings {P : Program} {w : World} {K : PySem.W.Frag} {mg : Str → Option Value} {base : Heap} {f : Addr} {fd : FuncData} (F : Fun K "count_rings" "count_rings" s_count_rings f fd) (NB : NoB mg) (h_primitive_rings : HasF P w K mg base 2 "primitive_rings" ["around", "length"] wf_primitive_rings) (h_power : HasF P w K mg base 1 "power" ["base", "many"] wf_power) :
    FnOk P w K mg base (L2.CX P w) 3 f fd ["size", "length"] (spW (CC.of K mg) 2 wr_count_rings) :=
  def_ok F sc_count_rings fun cdv A outer s H E hr =>
    (qss_one (qs_ret (qe_f h_primitive_rings rfl ⟨rfl, rfl⟩ (hr.mono (by decide)) (by rfl) (passes_E (takes_of rfl rfl rfl rfl)) (qa_cons (qe_lc rfl sc_count_rings.nd (qi_range1 (by rfl) (NB "range" (by decide)) (qa_cons (qe_op o2_add op_addP (qe_var (pv 1)) qe_int) qa_nil)) (blkOk_by (own := [("many", 2)]) (N := n_count_rings) (sc := defScope s_count_rings) (by decide +kernel)) rfl (by decide) (fun _ _ _ _ _ => (qg_name (pg_name (i := 2) sc_count_rings.nd rfl (Or.inl rfl)))) (fun _ _ _ _ _ => qts_nil) (fun _ _ _ _ _ => (qe_f h_power rfl ⟨rfl, rfl⟩ (hr.mono (by decide)) (by rfl) passes_no (qa_cons (qe_var (pv 0)) (qa_cons (qe_var (pv 2)) qa_nil))))) (qa_cons (qe_var (pv 1)) qa_nil)))))

abbrev s_necklaces : Stmt := topS 15
abbrev n_necklaces : List Str := ["size", "length"]
theorem sc_necklaces : FnScope n_necklaces ["size", "length"] (defScope s_necklaces) := ⟨rfl, rfl, rfl, by decide +kernel, rfl, by decide +kernel, by decide +kernel⟩
set_option maxHeartbeats 1000000 in
theorem ok_necklaces {P : Program} {w : World} {K : PySem.W.Frag} {mg : Str → Option Value} {base : Heap} {f : Addr} {fd : FuncData} (F : Fun K "necklaces" "necklaces" s_necklaces f fd) (NB : NoB mg) (h_check_size : HasF P w K mg base 4 "check_size" ["size"] wf_check_size) (h_check_number : HasF P w K mg base 3 "check_number" ["value", "least", "most", "name"] wf_check_number) (h_count_rings : HasF P w K mg base 3 "count_rings" ["size", "length"] wf_count_rings) (c_MOST_LENGTH : CI mg "MOST_LENGTH" 12) :
    FnOk P w K mg base (L2.CX P w) 5 f fd ["size", "length"] (spW (CC.of K mg) 2 wr_necklaces) :=
  def_ok F sc_necklaces fun cdv A outer s H E hr =>
    (qss_cons (qs_expr (qe_f h_check_size rfl ⟨rfl, rfl⟩ (hr.mono (by decide)) (by rfl) (passes_E (takes_of rfl rfl rfl rfl)) (qa_cons (qe_var (pv 0)) qa_nil)))
     (qss_cons (qs_expr (qe_f h_check_number rfl ⟨rfl, rfl⟩ (hr.mono (by decide)) (by rfl) (passes_E (takes_of rfl rfl rfl rfl)) (qa_cons (qe_var (pv 1)) (qa_cons qe_int (qa_cons (qe_gI c_MOST_LENGTH (by rfl)) (qa_cons qe_str qa_nil))))))
     (qss_one (qs_ret (qe_f h_count_rings rfl ⟨rfl, rfl⟩ (hr.mono (by decide)) (by rfl) (passes_E (takes_of rfl rfl rfl rfl)) (qa_cons (qe_var (pv 0)) (qa_cons (qe_var (pv 1)) qa_nil)))))))

abbrev s__law_is_integer : Stmt := topS 19
abbrev n__law_is_integer : List Str := ["actual"]
theorem sc__law_is_integer : FnScope n__law_is_integer ["actual"] (defScope s__law_is_integer) := ⟨rfl, rfl, rfl, by decide +kernel, rfl, by decide +kernel, by decide +kernel⟩
set_option maxHeartbeats 1000000 in
theorem ok__law_is_integer {P : Program} {w : World} {K : PySem.W.Frag} {mg : Str → Option Value} {base : Heap} {f : Addr} {fd : FuncData} (F : Fun K "_law_is_integer" "_law_is_integer" s__law_is_integer f fd) (NB : NoB mg)  :
    FnOk P w K mg base (L2.CX P w) 1 f fd ["actual"] (spW (CC.of K mg) 1 wr__law_is_integer) :=
  def_ok F sc__law_is_integer fun cdv A outer s H E hr =>
    (qss_one (qs_ret (qe_and (qe_isi (T := "int") (by decide) rfl (by rfl) (NB "isinstance" (by decide)) (qe_var (pv 0)) (pe_bltn (v := .ty "int") (by rfl) (NB "int" (by decide)) (by decide +kernel) rfl)) (qe_one (qe_not (qe_isi (T := "bool") (by decide) rfl (by rfl) (NB "isinstance" (by decide)) (qe_var (pv 0)) (pe_bltn (v := .ty "bool") (by rfl) (NB "bool" (by decide)) (by decide +kernel) rfl)))))))

abbrev s__law_strings : Stmt := topS 20
abbrev n__law_strings : List Str := ["size", "length", "rows", "turn", "longer", "row", "letter"]
theorem sc__law_strings : FnScope n__law_strings ["size", "length"] (defScope s__law_strings) := ⟨rfl, rfl, rfl, by decide +kernel, rfl, by decide +kernel, by decide +kernel⟩
set_option maxHeartbeats 1000000 in
theorem ok__law_strings {P : Program} {w : World} {K : PySem.W.Frag} {mg : Str → Option Value} {base : Heap} {f : Addr} {fd : FuncData} (F : Fun K "_law_strings" "_law_strings" s__law_strings f fd) (NB : NoB mg)  :
    FnOk P w K mg base (L2.CX P w) 1 f fd ["size", "length"] (spW (CC.of K mg) 2 wr__law_strings) :=
  def_ok F sc__law_strings fun cdv A outer s H E hr =>
    (qss_cons (qs_set (i := 2) sc__law_strings.nd rfl (.inl rfl) (qe_lst (qa_cons qe_str qa_nil)))
     (qss_cons (qs_for (passes_of rfl) rfl (qi_range1 (by rfl) (NB "range" (by decide)) (qa_cons (qe_var (pv 1)) qa_nil)) (qg_name (pg_name (i := 3) sc__law_strings.nd rfl (Or.inl rfl))) (qss_cons (qs_set (i := 4) sc__law_strings.nd rfl (.inl rfl) (qe_lst qa_nil))
       (qss_cons (qs_for (passes_of rfl) rfl (qi_row rfl (qe_var (pv 2))) (qg_name (pg_name (i := 5) sc__law_strings.nd rfl (Or.inr rfl))) (qss_one (qs_set (i := 4) sc__law_strings.nd rfl (.inl rfl) (qe_op o2_add op_addP (qe_var (pv 4)) (qe_lc rfl sc__law_strings.nd (qi_row rfl (qe_slice rfl qe_str qo_none (qo_some (qe_var (pv 0))))) (blkOk_by (own := [("letter", 6)]) (N := n__law_strings) (sc := defScope s__law_strings) (by decide +kernel)) rfl (by decide) (fun _ _ _ _ _ => (qg_name (pg_name (i := 6) sc__law_strings.nd rfl (Or.inl rfl)))) (fun _ _ _ _ _ => qts_nil) (fun _ _ _ _ _ => (qe_op o2_add op_addP (qe_var (pv 5)) (qe_var (pv 6)))))))))
       (qss_one (qs_set (i := 2) sc__law_strings.nd rfl (.inl rfl) (qe_var (pv 4)))))))
     (qss_one (qs_ret (qe_var (pv 2))))))

abbrev s__law_turnings : Stmt := topS 21
abbrev n__law_turnings : List Str := ["ring", "by"]
theorem sc__law_turnings : FnScope n__law_turnings ["ring"] (defScope s__law_turnings) := ⟨rfl, rfl, rfl, by decide +kernel, rfl, by decide +kernel, by decide +kernel⟩
set_option maxHeartbeats 1000000 in
theorem ok__law_turnings {P : Program} {w : World} {K : PySem.W.Frag} {mg : Str → Option Value} {base : Heap} {f : Addr} {fd : FuncData} (F : Fun K "_law_turnings" "_law_turnings" s__law_turnings f fd) (NB : NoB mg)  :
    FnOk P w K mg base (L2.CX P w) 1 f fd ["ring"] (spW (CC.of K mg) 1 wr__law_turnings) :=
  def_ok F sc__law_turnings fun cdv A outer s H E hr =>
    (qss_one (qs_ret (qe_lc rfl sc__law_turnings.nd (qi_range1 (by rfl) (NB "range" (by decide)) (qa_cons (qe_callB cp_len ca_lenR (by rfl) (NB "len" (by decide)) PySem.boot_len (qa_cons (qe_var (pv 0)) qa_nil)) qa_nil)) (blkOk_by (own := [("by", 1)]) (N := n__law_turnings) (sc := defScope s__law_turnings) (by decide +kernel)) rfl (by decide) (fun _ _ _ _ _ => (qg_name (pg_name (i := 1) sc__law_turnings.nd rfl (Or.inl rfl)))) (fun _ _ _ _ _ => qts_nil) (fun _ _ _ _ _ => (qe_op o2_add op_addP (qe_slice rfl (qe_var (pv 0)) (qo_some (qe_var (pv 1))) qo_none) (qe_slice rfl (qe_var (pv 0)) qo_none (qo_some (qe_var (pv 1)))))))))

abbrev s__law_is_primitive : Stmt := topS 22
abbrev n__law_is_primitive : List Str := ["ring", "one"]
theorem sc__law_is_primitive : FnScope n__law_is_primitive ["ring"] (defScope s__law_is_primitive) := ⟨rfl, rfl, rfl, by decide +kernel, rfl, by decide +kernel, by decide +kernel⟩
set_option maxHeartbeats 1000000 in
theorem ok__law_is_primitive {P : Program} {w : World} {K : PySem.W.Frag} {mg : Str → Option Value} {base : Heap} {f : Addr} {fd : FuncData} (F : Fun K "_law_is_primitive" "_law_is_primitive" s__law_is_primitive f fd) (NB : NoB mg) (h__law_turnings : HasF P w K mg base 1 "_law_turnings" ["ring"] wf__law_turnings) :
    FnOk P w K mg base (L2.CX P w) 2 f fd ["ring"] (spW (CC.of K mg) 1 wr__law_is_primitive) :=
  def_ok F sc__law_is_primitive fun cdv A outer s H E hr =>
    (qss_one (qs_ret (qe_cmp o2_eq (op_eqD hr.units) (qe_callB cp_len ca_lenR (by rfl) (NB "len" (by decide)) PySem.boot_len (qa_cons (qe_lc rfl sc__law_is_primitive.nd (qi_row rfl (qe_f h__law_turnings rfl ⟨rfl, rfl⟩ (hr.mono (by decide)) (by rfl) (passes_E (takes_of rfl rfl rfl rfl)) (qa_cons (qe_var (pv 0)) qa_nil))) (blkOk_by (own := [("one", 1)]) (N := n__law_is_primitive) (sc := defScope s__law_is_primitive) (by decide +kernel)) rfl (by decide) (fun _ _ _ _ _ => (qg_name (pg_name (i := 1) sc__law_is_primitive.nd rfl (Or.inl rfl)))) (fun _ _ _ _ _ => (qts_one (qt_cmp o2_eq (op_eqD hr.units) (qe_var (pv 1)) (qe_var (pv 0)) (nomark _)))) (fun _ _ _ _ _ => (qe_var (pv 1)))) qa_nil)) qe_int (nomark _))))

abbrev s__law_necklaces : Stmt := topS 23
abbrev n__law_necklaces : List Str := ["size", "length", "ring"]
theorem sc__law_necklaces : FnScope n__law_necklaces ["size", "length"] (defScope s__law_necklaces) := ⟨rfl, rfl, rfl, by decide +kernel, rfl, by decide +kernel, by decide +kernel⟩
set_option maxHeartbeats 1000000 in
theorem ok__law_necklaces {P : Program} {w : World} {K : PySem.W.Frag} {mg : Str → Option Value} {base : Heap} {f : Addr} {fd : FuncData} (F : Fun K "_law_necklaces" "_law_necklaces" s__law_necklaces f fd) (NB : NoB mg) (h__law_strings : HasF P w K mg base 1 "_law_strings" ["size", "length"] wf__law_strings) (h__law_is_primitive : HasF P w K mg base 2 "_law_is_primitive" ["ring"] wf__law_is_primitive) (h__law_turnings : HasF P w K mg base 1 "_law_turnings" ["ring"] wf__law_turnings) :
    FnOk P w K mg base (L2.CX P w) 3 f fd ["size", "length"] (spW (CC.of K mg) 2 wr__law_necklaces) :=
  def_ok F sc__law_necklaces fun cdv A outer s H E hr =>
    (qss_one (qs_ret (qe_lc rfl sc__law_necklaces.nd (qi_row rfl (qe_f h__law_strings rfl ⟨rfl, rfl⟩ (hr.mono (by decide)) (by rfl) (passes_E (takes_of rfl rfl rfl rfl)) (qa_cons (qe_var (pv 0)) (qa_cons (qe_var (pv 1)) qa_nil)))) (blkOk_by (own := [("ring", 2)]) (N := n__law_necklaces) (sc := defScope s__law_necklaces) (by decide +kernel)) rfl (by decide) (fun _ _ _ _ _ => (qg_name (pg_name (i := 2) sc__law_necklaces.nd rfl (Or.inl rfl)))) (fun _ _ _ _ _ => (qts_one (qt_w (qw_and (qt_val (qe_f h__law_is_primitive rfl ⟨rfl, rfl⟩ (hr.mono (by decide)) (by rfl) passes_no (qa_cons (qe_var (pv 2)) qa_nil)) rfl (by intro _; rfl)) (qw_and1 (qt_cmp o2_eq (op_eqD hr.units) (qe_var (pv 2)) (qe_callB cp_minS (cr_minS rfl) (by rfl) (NB "min" (by decide)) (by decide +kernel) (qa_cons (qe_f h__law_turnings rfl ⟨rfl, rfl⟩ (hr.mono (by decide)) (by rfl) passes_no (qa_cons (qe_var (pv 2)) qa_nil)) qa_nil)) (nomark _))))))) (fun _ _ _ _ _ => (qe_var (pv 2))))))

abbrev s_law : Stmt := topS 25
abbrev n_law : List Str := ["script", "stream", "size", "length", "told", "total", "turn", "d"]
theorem sc_law : FnScope n_law ["script"] (defScope s_law) := ⟨rfl, rfl, rfl, by decide +kernel, rfl, by decide +kernel, by decide +kernel⟩
set_option maxHeartbeats 4000000 in
theorem ok_law {P : Program} {w : World} {K : PySem.W.Frag} {mg : Str → Option Value} {base : Heap} {f fs : Addr} {fd fds : FuncData} (F : Fun K "law" "law" s_law f fd) (NB : NoB mg) (GS : FnOk P w K mg base CX0 1 fs fds ["script"] (spStream K)) (kS : PySem.W.keepIn K (.ref fs) = true) (bS : Binds K fds ["script"] []) (gS : mg "_law_stream" = some (.ref fs)) (h_necklaces : HasF P w K mg base 5 "necklaces" ["size", "length"] wf_necklaces) (h__law_next : HasF P w K mg base 1 "_law_next" ["stream", "many"] wf__law_next) (h__law_is_integer : HasF P w K mg base 1 "_law_is_integer" ["actual"] wf__law_is_integer) (h__law_necklaces : HasF P w K mg base 3 "_law_necklaces" ["size", "length"] wf__law_necklaces) (hw : LawOk n_law.length wb_law) :
    FnOk P w K mg base (L2.CX P w) 6 f fd ["script"] (spLaw K) :=
  law_ok F sc_law (by decide) (fun cdv A outer s H E hr => ⟨_, _, _, rfl, ps_set (i := 1) sc_law.nd rfl (.inl rfl) (pe_call GS (hr.mono (by decide)) (by rfl) gS kS bS .nil pass0 (pa_cons (pv 0) pa_nil)), fun σ H Q h => h,
    (qss_cons (qs_set (i := 2) sc_law.nd rfl (.inr rfl) (qe_op o2_add op_addP qe_int (qe_f h__law_next rfl ⟨rfl, rfl⟩ (hr.mono (by decide)) (by rfl) (passes_E (takes_of rfl rfl rfl rfl)) (qa_cons (qe_var (pv 1)) (qa_cons qe_int qa_nil)))))
     (qss_cons (qs_set (i := 3) sc_law.nd rfl (.inr rfl) (qe_op o2_add op_addP qe_int (qe_f h__law_next rfl ⟨rfl, rfl⟩ (hr.mono (by decide)) (by rfl) (passes_E (takes_of rfl rfl rfl rfl)) (qa_cons (qe_var (pv 1)) (qa_cons (qe_op o2_sub op_sub qe_int (qe_callTy cp_int call_int1 (by rfl) (NB "int" (by decide)) (by decide +kernel) (qa_cons (qe_cmp o2_eq (op_eqD hr.units) (qe_var (pv 2)) qe_int (nomark _)) qa_nil))) qa_nil)))))
     (qss_cons (qs_set (i := 4) sc_law.nd rfl (.inl rfl) (qe_f h_necklaces rfl ⟨rfl, rfl⟩ (hr.mono (by decide)) (by rfl) (passes_E (takes_of rfl rfl rfl rfl)) (qa_cons (qe_var (pv 2)) (qa_cons (qe_var (pv 3)) qa_nil))))
     (qss_cons (qs_if (qt_w (qw_or (qt_not (qt_val (qe_f h__law_is_integer rfl ⟨rfl, rfl⟩ (hr.mono (by decide)) (by rfl) (passes_E (takes_of rfl rfl rfl rfl)) (qa_cons (qe_var (pv 4)) qa_nil)) rfl (by intro _; rfl))) (qw_or1 (qt_cmp o2_ne (op_neD hr.units) (qe_var (pv 4)) (qe_callB cp_len ca_lenR (by rfl) (NB "len" (by decide)) PySem.boot_len (qa_cons (qe_f h__law_necklaces rfl ⟨rfl, rfl⟩ (hr.mono (by decide)) (by rfl) (passes_E (takes_of rfl rfl rfl rfl)) (qa_cons (qe_var (pv 2)) (qa_cons (qe_var (pv 3)) qa_nil))) qa_nil)) (nomark _))))) (qss_one (qs_ret qe_bl)) qss_nil)
     (qss_cons (qs_set (i := 3) sc_law.nd rfl (.inr rfl) (qe_op o2_add op_addP qe_int (qe_f h__law_next rfl ⟨rfl, rfl⟩ (hr.mono (by decide)) (by rfl) (passes_E (takes_of rfl rfl rfl rfl)) (qa_cons (qe_var (pv 1)) (qa_cons qe_int qa_nil)))))
     (qss_cons (qs_set (i := 5) sc_law.nd rfl (.inl rfl) qe_int)
     (qss_cons (qs_for (passes_of rfl) rfl (qi_range1 (by rfl) (NB "range" (by decide)) (qa_cons (qe_var (pv 3)) qa_nil)) (qg_name (pg_name (i := 6) sc_law.nd rfl (Or.inl rfl))) (qss_one (qs_set (i := 5) sc_law.nd rfl (.inl rfl) (qe_op o2_mul op_mulP (qe_var (pv 5)) (qe_var (pv 2))))))
     (qss_one (qs_ret (qe_cmp o2_eq (op_eqD hr.units) (qe_callB cp_sum (cr_sum rfl) (by rfl) (NB "sum" (by decide)) (by decide +kernel) (qa_cons (qe_lc rfl sc_law.nd (qi_range2 (by rfl) (NB "range" (by decide)) (qa_cons qe_int (qa_cons (qe_op o2_add op_addP (qe_var (pv 3)) qe_int) qa_nil))) (blkOk_by (own := [("d", 7)]) (N := n_law) (sc := defScope s_law) (by decide +kernel)) rfl (by decide) (fun _ _ _ _ _ => (qg_name (pg_name (i := 7) sc_law.nd rfl (Or.inl rfl)))) (fun _ _ _ _ _ => (qts_one (qt_cmp o2_eq (op_eqD hr.units) (qe_op o2_mod op_mod (qe_var (pv 3)) (qe_var (pv 7))) qe_int (nomark _)))) (fun _ _ _ _ _ => (qe_op o2_mul op_mulP (qe_var (pv 7)) (qe_f h_necklaces rfl ⟨rfl, rfl⟩ (hr.mono (by decide)) (by rfl) passes_no (qa_cons (qe_var (pv 2)) (qa_cons (qe_var (pv 7)) qa_nil)))))) qa_nil)) (qe_var (pv 5)) (nomark _)))))))))))⟩) hw

/-! ### what the top has left; the last theorem -/
set_option maxHeartbeats 0 in
theorem all_mk {l : PySem.W.OpenLaw} {w : World} {K : PySem.W.Frag} {h : Heap} {mg : Str → Option Value} {fa : Addr} (X : K.In h) (G : h.Ns mainGlobals mg) (hfa : mg "law" = some (.ref fa))
    {f0 : Addr} {od0 an0 : Option Addr} {sl0 : Array (Option Value)} {oc0 kV0 dc0 pm0 cd0 ct0 : Value}
    {f1 : Addr} {od1 an1 : Option Addr} {sl1 : Array (Option Value)} {oc1 kV1 dc1 pm1 cd1 ct1 : Value}
    {f2 : Addr} {od2 an2 : Option Addr} {sl2 : Array (Option Value)} {oc2 kV2 dc2 pm2 cd2 ct2 : Value}
    {f3 : Addr} {od3 an3 : Option Addr} {sl3 : Array (Option Value)} {oc3 kV3 dc3 pm3 cd3 ct3 : Value}
    {f4 : Addr} {od4 an4 : Option Addr} {sl4 : Array (Option Value)} {oc4 kV4 dc4 pm4 cd4 ct4 : Value}
    {f5 : Addr} {od5 an5 : Option Addr} {sl5 : Array (Option Value)} {oc5 kV5 dc5 pm5 cd5 ct5 : Value}
    {f6 : Addr} {od6 an6 : Option Addr} {sl6 : Array (Option Value)} {oc6 kV6 dc6 pm6 cd6 ct6 : Value}
    {f7 : Addr} {od7 an7 : Option Addr} {sl7 : Array (Option Value)} {oc7 kV7 dc7 pm7 cd7 ct7 : Value}
    {f8 : Addr} {od8 an8 : Option Addr} {sl8 : Array (Option Value)} {oc8 kV8 dc8 pm8 cd8 ct8 : Value}
    {f9 : Addr} {od9 an9 : Option Addr} {sl9 : Array (Option Value)} {oc9 kV9 dc9 pm9 cd9 ct9 : Value}
    {f10 : Addr} {od10 an10 : Option Addr} {sl10 : Array (Option Value)} {oc10 kV10 dc10 pm10 cd10 ct10 : Value}
    {f11 : Addr} {od11 an11 : Option Addr} {sl11 : Array (Option Value)} {oc11 kV11 dc11 pm11 cd11 ct11 : Value}
    {f12 : Addr} {od12 an12 : Option Addr} {sl12 : Array (Option Value)} {oc12 kV12 dc12 pm12 cd12 ct12 : Value}
    {f13 : Addr} {od13 an13 : Option Addr} {sl13 : Array (Option Value)} {oc13 kV13 dc13 pm13 cd13 ct13 : Value}
    {f14 : Addr} {od14 an14 : Option Addr} {sl14 : Array (Option Value)} {oc14 kV14 dc14 pm14 cd14 ct14 : Value}
    {f15 : Addr} {od15 an15 : Option Addr} {sl15 : Array (Option Value)} {oc15 kV15 dc15 pm15 cd15 ct15 : Value}
    {f16 : Addr} {od16 an16 : Option Addr} {sl16 : Array (Option Value)} {oc16 kV16 dc16 pm16 cd16 ct16 : Value}
    {t0 : Tok}
    {t1 : Tok}
    {nmx0 qx0 : Str} {Cx0 Nx0 CEx0 ix0 : Addr} {bsx0 : List Value} {snx0 : List Str} {subx0 : List Value} {abx0 : Bool} {colx0 : Option Bool} {ddx0 : Option Addr} {max0 mbx0 mcx0 mdx0 mex0 : Option Value} {odix0 anix0 : Option Addr} {slix0 : Array (Option Value)} {ocix0 kVix0 dcix0 pmix0 cdix0 ctix0 : Value}
    (a0 : PySem.W.nsIn K mainGlobals "_law_stream" = some (some (.ref f0))) (l0 : K.lookup f0 = some ⟨oc0, od0, .func (PySem.W.fnOf "_law_stream" "_law_stream" (defArgs sStream) (defBody sStream) (defScope sStream) .none kV0 dc0 pm0 an0 cd0 ct0), sl0⟩) (c0 : PySem.W.codeIn K cd0 "_law_stream" = true) (k0 : PySem.W.keepIn K (.ref f0) = true)
    (a1 : PySem.W.nsIn K mainGlobals "is_integer" = some (some (.ref f1))) (l1 : K.lookup f1 = some ⟨oc1, od1, .func (PySem.W.fnOf "is_integer" "is_integer" (defArgs s_is_integer) (defBody s_is_integer) (defScope s_is_integer) .none kV1 dc1 pm1 an1 cd1 ct1), sl1⟩) (c1 : PySem.W.codeIn K cd1 "is_integer" = true) (k1 : PySem.W.keepIn K (.ref f1) = true)
    (a2 : PySem.W.nsIn K mainGlobals "is_number" = some (some (.ref f2))) (l2 : K.lookup f2 = some ⟨oc2, od2, .func (PySem.W.fnOf "is_number" "is_number" (defArgs s_is_number) (defBody s_is_number) (defScope s_is_number) .none kV2 dc2 pm2 an2 cd2 ct2), sl2⟩) (c2 : PySem.W.codeIn K cd2 "is_number" = true) (k2 : PySem.W.keepIn K (.ref f2) = true)
    (a3 : PySem.W.nsIn K mainGlobals "check_number" = some (some (.ref f3))) (l3 : K.lookup f3 = some ⟨oc3, od3, .func (PySem.W.fnOf "check_number" "check_number" (defArgs s_check_number) (defBody s_check_number) (defScope s_check_number) .none kV3 dc3 pm3 an3 cd3 ct3), sl3⟩) (c3 : PySem.W.codeIn K cd3 "check_number" = true) (k3 : PySem.W.keepIn K (.ref f3) = true)
    (a4 : PySem.W.nsIn K mainGlobals "check_size" = some (some (.ref f4))) (l4 : K.lookup f4 = some ⟨oc4, od4, .func (PySem.W.fnOf "check_size" "check_size" (defArgs s_check_size) (defBody s_check_size) (defScope s_check_size) .none kV4 dc4 pm4 an4 cd4 ct4), sl4⟩) (c4 : PySem.W.codeIn K cd4 "check_size" = true) (k4 : PySem.W.keepIn K (.ref f4) = true)
    (a5 : PySem.W.nsIn K mainGlobals "moebius" = some (some (.ref f5))) (l5 : K.lookup f5 = some ⟨oc5, od5, .func (PySem.W.fnOf "moebius" "moebius" (defArgs s_moebius) (defBody s_moebius) (defScope s_moebius) .none kV5 dc5 pm5 an5 cd5 ct5), sl5⟩) (c5 : PySem.W.codeIn K cd5 "moebius" = true) (k5 : PySem.W.keepIn K (.ref f5) = true)
    (a6 : PySem.W.nsIn K mainGlobals "primitive_rings" = some (some (.ref f6))) (l6 : K.lookup f6 = some ⟨oc6, od6, .func (PySem.W.fnOf "primitive_rings" "primitive_rings" (defArgs s_primitive_rings) (defBody s_primitive_rings) (defScope s_primitive_rings) .none kV6 dc6 pm6 an6 cd6 ct6), sl6⟩) (c6 : PySem.W.codeIn K cd6 "primitive_rings" = true) (k6 : PySem.W.keepIn K (.ref f6) = true)
    (a7 : PySem.W.nsIn K mainGlobals "power" = some (some (.ref f7))) (l7 : K.lookup f7 = some ⟨oc7, od7, .func (PySem.W.fnOf "power" "power" (defArgs s_power) (defBody s_power) (defScope s_power) .none kV7 dc7 pm7 an7 cd7 ct7), sl7⟩) (c7 : PySem.W.codeIn K cd7 "power" = true) (k7 : PySem.W.keepIn K (.ref f7) = true)
    (a8 : PySem.W.nsIn K mainGlobals "count_rings" = some (some (.ref f8))) (l8 : K.lookup f8 = some ⟨oc8, od8, .func (PySem.W.fnOf "count_rings" "count_rings" (defArgs s_count_rings) (defBody s_count_rings) (defScope s_count_rings) .none kV8 dc8 pm8 an8 cd8 ct8), sl8⟩) (c8 : PySem.W.codeIn K cd8 "count_rings" = true) (k8 : PySem.W.keepIn K (.ref f8) = true)
    (a9 : PySem.W.nsIn K mainGlobals "necklaces" = some (some (.ref f9))) (l9 : K.lookup f9 = some ⟨oc9, od9, .func (PySem.W.fnOf "necklaces" "necklaces" (defArgs s_necklaces) (defBody s_necklaces) (defScope s_necklaces) .none kV9 dc9 pm9 an9 cd9 ct9), sl9⟩) (c9 : PySem.W.codeIn K cd9 "necklaces" = true) (k9 : PySem.W.keepIn K (.ref f9) = true)
    (a10 : PySem.W.nsIn K mainGlobals "_law_next" = some (some (.ref f10))) (l10 : K.lookup f10 = some ⟨oc10, od10, .func (PySem.W.fnOf "_law_next" "_law_next" (defArgs sNext) (defBody sNext) (defScope sNext) .none kV10 dc10 pm10 an10 cd10 ct10), sl10⟩) (c10 : PySem.W.codeIn K cd10 "_law_next" = true) (k10 : PySem.W.keepIn K (.ref f10) = true)
    (a11 : PySem.W.nsIn K mainGlobals "_law_is_integer" = some (some (.ref f11))) (l11 : K.lookup f11 = some ⟨oc11, od11, .func (PySem.W.fnOf "_law_is_integer" "_law_is_integer" (defArgs s__law_is_integer) (defBody s__law_is_integer) (defScope s__law_is_integer) .none kV11 dc11 pm11 an11 cd11 ct11), sl11⟩) (c11 : PySem.W.codeIn K cd11 "_law_is_integer" = true) (k11 : PySem.W.keepIn K (.ref f11) = true)
    (a12 : PySem.W.nsIn K mainGlobals "_law_strings" = some (some (.ref f12))) (l12 : K.lookup f12 = some ⟨oc12, od12, .func (PySem.W.fnOf "_law_strings" "_law_strings" (defArgs s__law_strings) (defBody s__law_strings) (defScope s__law_strings) .none kV12 dc12 pm12 an12 cd12 ct12), sl12⟩) (c12 : PySem.W.codeIn K cd12 "_law_strings" = true) (k12 : PySem.W.keepIn K (.ref f12) = true)
    (a13 : PySem.W.nsIn K mainGlobals "_law_turnings" = some (some (.ref f13))) (l13 : K.lookup f13 = some ⟨oc13, od13, .func (PySem.W.fnOf "_law_turnings" "_law_turnings" (defArgs s__law_turnings) (defBody s__law_turnings) (defScope s__law_turnings) .none kV13 dc13 pm13 an13 cd13 ct13), sl13⟩) (c13 : PySem.W.codeIn K cd13 "_law_turnings" = true) (k13 : PySem.W.keepIn K (.ref f13) = true)
    (a14 : PySem.W.nsIn K mainGlobals "_law_is_primitive" = some (some (.ref f14))) (l14 : K.lookup f14 = some ⟨oc14, od14, .func (PySem.W.fnOf "_law_is_primitive" "_law_is_primitive" (defArgs s__law_is_primitive) (defBody s__law_is_primitive) (defScope s__law_is_primitive) .none kV14 dc14 pm14 an14 cd14 ct14), sl14⟩) (c14 : PySem.W.codeIn K cd14 "_law_is_primitive" = true) (k14 : PySem.W.keepIn K (.ref f14) = true)
    (a15 : PySem.W.nsIn K mainGlobals "_law_necklaces" = some (some (.ref f15))) (l15 : K.lookup f15 = some ⟨oc15, od15, .func (PySem.W.fnOf "_law_necklaces" "_law_necklaces" (defArgs s__law_necklaces) (defBody s__law_necklaces) (defScope s__law_necklaces) .none kV15 dc15 pm15 an15 cd15 ct15), sl15⟩) (c15 : PySem.W.codeIn K cd15 "_law_necklaces" = true) (k15 : PySem.W.keepIn K (.ref f15) = true)
    (a16 : PySem.W.nsIn K mainGlobals "law" = some (some (.ref f16))) (l16 : K.lookup f16 = some ⟨oc16, od16, .func (PySem.W.fnOf "law" "law" (defArgs s_law) (defBody s_law) (defScope s_law) .none kV16 dc16 pm16 an16 cd16 ct16), sl16⟩) (c16 : PySem.W.codeIn K cd16 "law" = true) (k16 : PySem.W.keepIn K (.ref f16) = true)
    (yy0 : PySem.W.nsIn K mainGlobals "MOST_SIZE" = some (some (.int 3 t0)))
    (yy1 : PySem.W.nsIn K mainGlobals "MOST_LENGTH" = some (some (.int 12 t1)))
    (z_isinstance : PySem.W.nsIn K mainGlobals "isinstance" = some none)
    (z_str : PySem.W.nsIn K mainGlobals "str" = some none)
    (z_len : PySem.W.nsIn K mainGlobals "len" = some none)
    (z_all : PySem.W.nsIn K mainGlobals "all" = some none)
    (z_any : PySem.W.nsIn K mainGlobals "any" = some none)
    (z_tuple : PySem.W.nsIn K mainGlobals "tuple" = some none)
    (z_set : PySem.W.nsIn K mainGlobals "set" = some none)
    (z_list : PySem.W.nsIn K mainGlobals "list" = some none)
    (z_abs : PySem.W.nsIn K mainGlobals "abs" = some none)
    (z_int : PySem.W.nsIn K mainGlobals "int" = some none)
    (z_bool : PySem.W.nsIn K mainGlobals "bool" = some none)
    (z_range : PySem.W.nsIn K mainGlobals "range" = some none)
    (z_sum : PySem.W.nsIn K mainGlobals "sum" = some none)
    (z_reversed : PySem.W.nsIn K mainGlobals "reversed" = some none)
    (z_zip : PySem.W.nsIn K mainGlobals "zip" = some none)
    (z_enumerate : PySem.W.nsIn K mainGlobals "enumerate" = some none)
    (z_min : PySem.W.nsIn K mainGlobals "min" = some none)
    (z_max : PySem.W.nsIn K mainGlobals "max" = some none)
    (z_sorted : PySem.W.nsIn K mainGlobals "sorted" = some none)
    (gxx0 : PySem.W.nsIn K mainGlobals "BadValue" = some (some (.ref Cx0)))
    (xlx0 : K.lookup Cx0 = some (excClassObj nmx0 qx0 Cx0 Nx0 bsx0 [.ref CEx0, .type "ValueError", .type "Exception", .type "BaseException", .type "object"] true snx0 subx0 abx0 colx0 ddx0 max0 mbx0 mcx0 mdx0 mex0 "ValueError.__new__"))
    (sax0 : PySem.W.findIn K (.ref Cx0) "__setattr__" = some (some (.builtin "object.__setattr__")))
    (gax0 : PySem.W.findIn K (.ref Cx0) "__getattribute__" = some (some (.builtin "BaseException.__getattribute__")))
    (ggx0 : PySem.W.findIn K (.ref Cx0) "__getattr__" = some none)
    (nfx0 : PySem.W.findIn K (.ref Cx0) "name" = some none)
    (iax0 : PySem.W.findIn K (.ref Cx0) "__init__" = some (some (.ref ix0)))
    (itx0 : PySem.W.typeIn K (.ref ix0) = some (.type "function"))
    (ilx0 : K.lookup ix0 = some ⟨ocix0, odix0, .func (PySem.W.fnOf "__init__" "BadValue.__init__" (defArgs sBadValueInit) (defBody sBadValueInit) (defScope sBadValueInit) .none kVix0 dcix0 pmix0 anix0 cdix0 ctix0), slix0⟩)
    (icx0 : PySem.W.codeIn K cdix0 "BadValue.__init__" = true)
    (ikx0 : PySem.W.keepIn K (.ref ix0) = true)
    (kCx0 : PySem.W.keepIn K (.ref Cx0) = true)
    (eCx0 : PySem.W.subIn K (.ref Cx0) (.type "BaseException") = some true)
    (tCx0 : PySem.W.typeIn K (.ref Cx0) = some (.type "type"))
    (hCx0 : PySem.W.hasDictIn K Cx0 = true)
    (iCx0 : PySem.W.isClsIn K Cx0 = true)
    (sCx0 : PySem.W.subIn K (.ref Cx0) (.ref Cx0) = some true) :
    ∃ fd : FuncData, (∀ (s : Shared) (v : Value), BindsTo s fd ⟨[v], []⟩ [("script", v)]) ∧ ∀ base : Heap, K.In base → base.Ns mainGlobals mg → FnOk l.prog w K mg base (L2.CX l.prog w) 6 fa fd ["script"] (spLaw K) := by
  have e := hfa.symm.trans (PySem.W.mg_of X G a16)
  cases e
  have F0 := fun_mk (st := sStream) l0 c0 k0
  have b0 := F0.binds (ps := ["script"]) fun _ _ _ _ _ _ us hl => match us, hl with | [_], _ => rfl
  have m0 := PySem.W.mg_of X G a0
  have F1 := fun_mk (st := s_is_integer) l1 c1 k1
  have b1 := F1.binds (ps := ["value"]) fun _ _ _ _ _ _ us hl => match us, hl with | [_], _ => rfl
  have m1 := PySem.W.mg_of X G a1
  have F2 := fun_mk (st := s_is_number) l2 c2 k2
  have b2 := F2.binds (ps := ["value", "least", "most"]) fun _ _ _ _ _ _ us hl => match us, hl with | [_, _, _], _ => rfl
  have m2 := PySem.W.mg_of X G a2
  have F3 := fun_mk (st := s_check_number) l3 c3 k3
  have b3 := F3.binds (ps := ["value", "least", "most", "name"]) fun _ _ _ _ _ _ us hl => match us, hl with | [_, _, _, _], _ => rfl
  have m3 := PySem.W.mg_of X G a3
  have F4 := fun_mk (st := s_check_size) l4 c4 k4
  have b4 := F4.binds (ps := ["size"]) fun _ _ _ _ _ _ us hl => match us, hl with | [_], _ => rfl
  have m4 := PySem.W.mg_of X G a4
  have F5 := fun_mk (st := s_moebius) l5 c5 k5
  have b5 := F5.binds (ps := ["number"]) fun _ _ _ _ _ _ us hl => match us, hl with | [_], _ => rfl
  have m5 := PySem.W.mg_of X G a5
  have F6 := fun_mk (st := s_primitive_rings) l6 c6 k6
  have b6 := F6.binds (ps := ["around", "length"]) fun _ _ _ _ _ _ us hl => match us, hl with | [_, _], _ => rfl
  have m6 := PySem.W.mg_of X G a6
  have F7 := fun_mk (st := s_power) l7 c7 k7
  have b7 := F7.binds (ps := ["base", "many"]) fun _ _ _ _ _ _ us hl => match us, hl with | [_, _], _ => rfl
  have m7 := PySem.W.mg_of X G a7
  have F8 := fun_mk (st := s_count_rings) l8 c8 k8
  have b8 := F8.binds (ps := ["size", "length"]) fun _ _ _ _ _ _ us hl => match us, hl with | [_, _], _ => rfl
  have m8 := PySem.W.mg_of X G a8
  have F9 := fun_mk (st := s_necklaces) l9 c9 k9
  have b9 := F9.binds (ps := ["size", "length"]) fun _ _ _ _ _ _ us hl => match us, hl with | [_, _], _ => rfl
  have m9 := PySem.W.mg_of X G a9
  have F10 := fun_mk (st := sNext) l10 c10 k10
  have b10 := F10.binds (ps := ["stream", "many"]) fun _ _ _ _ _ _ us hl => match us, hl with | [_, _], _ => rfl
  have m10 := PySem.W.mg_of X G a10
  have F11 := fun_mk (st := s__law_is_integer) l11 c11 k11
  have b11 := F11.binds (ps := ["actual"]) fun _ _ _ _ _ _ us hl => match us, hl with | [_], _ => rfl
  have m11 := PySem.W.mg_of X G a11
  have F12 := fun_mk (st := s__law_strings) l12 c12 k12
  have b12 := F12.binds (ps := ["size", "length"]) fun _ _ _ _ _ _ us hl => match us, hl with | [_, _], _ => rfl
  have m12 := PySem.W.mg_of X G a12
  have F13 := fun_mk (st := s__law_turnings) l13 c13 k13
  have b13 := F13.binds (ps := ["ring"]) fun _ _ _ _ _ _ us hl => match us, hl with | [_], _ => rfl
  have m13 := PySem.W.mg_of X G a13
  have F14 := fun_mk (st := s__law_is_primitive) l14 c14 k14
  have b14 := F14.binds (ps := ["ring"]) fun _ _ _ _ _ _ us hl => match us, hl with | [_], _ => rfl
  have m14 := PySem.W.mg_of X G a14
  have F15 := fun_mk (st := s__law_necklaces) l15 c15 k15
  have b15 := F15.binds (ps := ["size", "length"]) fun _ _ _ _ _ _ us hl => match us, hl with | [_, _], _ => rfl
  have m15 := PySem.W.mg_of X G a15
  have F16 := fun_mk (st := s_law) l16 c16 k16
  have m16 := PySem.W.mg_of X G a16
  have mc0 := PySem.W.mg_of X G yy0
  have mc1 := PySem.W.mg_of X G yy1
  have n_isinstance := PySem.W.mg_none_of X G z_isinstance
  have n_str := PySem.W.mg_none_of X G z_str
  have n_len := PySem.W.mg_none_of X G z_len
  have n_all := PySem.W.mg_none_of X G z_all
  have n_any := PySem.W.mg_none_of X G z_any
  have n_tuple := PySem.W.mg_none_of X G z_tuple
  have n_set := PySem.W.mg_none_of X G z_set
  have n_list := PySem.W.mg_none_of X G z_list
  have n_abs := PySem.W.mg_none_of X G z_abs
  have n_int := PySem.W.mg_none_of X G z_int
  have n_bool := PySem.W.mg_none_of X G z_bool
  have n_range := PySem.W.mg_none_of X G z_range
  have n_sum := PySem.W.mg_none_of X G z_sum
  have n_reversed := PySem.W.mg_none_of X G z_reversed
  have n_zip := PySem.W.mg_none_of X G z_zip
  have n_enumerate := PySem.W.mg_none_of X G z_enumerate
  have n_min := PySem.W.mg_none_of X G z_min
  have n_max := PySem.W.mg_none_of X G z_max
  have n_sorted := PySem.W.mg_none_of X G z_sorted
  refine ⟨PySem.W.fnOf "law" "law" (defArgs s_law) (defBody s_law) (defScope s_law) .none kV16 dc16 pm16 an16 cd16 ct16, fun s v => .of_eq rfl, fun base _ _ => ?_⟩
  have Tx0 : OexC K Cx0 := ⟨⟨nmx0, qx0, Nx0, bsx0, _, snx0, subx0, abx0, colx0, ddx0, max0, mbx0, mcx0, mdx0, mex0, xlx0, (by show PySem.HandSPX.refsVE [.type "ValueError", .type "Exception", .type "BaseException", .type "object"] = true; decide +kernel)⟩, sax0, eCx0, tCx0, kCx0⟩
  have FIx0 := fun_mk (st := sBadValueInit) ilx0 icx0 ikx0
  have bIx0 := FIx0.binds (ps := ["self", "name"]) fun _ _ _ _ _ _ us hl => match us, hl with | [_, _], _ => rfl
  have Zx0 : Xc l.prog w K mg base "BadValue" "name" Cx0 := ⟨Tx0, PySem.W.mg_of X G gxx0, ⟨_, _, iax0, itx0, ok_BadValueinit FIx0 Tx0 nfx0, bIx0⟩, ⟨gax0, ggx0, eCx0, hCx0⟩, nfx0, exm_same eCx0 iCx0 tCx0 sCx0⟩
  have NB : NoB mg := List.forall_mem_cons.mpr ⟨n_isinstance, List.forall_mem_cons.mpr ⟨n_str, List.forall_mem_cons.mpr ⟨n_len, List.forall_mem_cons.mpr ⟨n_all, List.forall_mem_cons.mpr ⟨n_any, List.forall_mem_cons.mpr ⟨n_tuple, List.forall_mem_cons.mpr ⟨n_set, List.forall_mem_cons.mpr ⟨n_list, List.forall_mem_cons.mpr ⟨n_abs, List.forall_mem_cons.mpr ⟨n_int, List.forall_mem_cons.mpr ⟨n_bool, List.forall_mem_cons.mpr ⟨n_range, List.forall_mem_cons.mpr ⟨n_sum, List.forall_mem_cons.mpr ⟨n_reversed, List.forall_mem_cons.mpr ⟨n_zip, List.forall_mem_cons.mpr ⟨n_enumerate, List.forall_mem_cons.mpr ⟨n_min, List.forall_mem_cons.mpr ⟨n_max, List.forall_mem_cons.mpr ⟨n_sorted, fun _ h => nomatch h⟩⟩⟩⟩⟩⟩⟩⟩⟩⟩⟩⟩⟩⟩⟩⟩⟩⟩⟩
  have GS : FnOk l.prog w K mg base CX0 1 f0 _ ["script"] (spStream K) := ok_stream F0 n_list
  have H_is_integer : HasF l.prog w K mg base 1 "is_integer" ["value"] wf_is_integer := (has_of F1 m1 b1 (ok_is_integer F1 NB)).imp le_is_integer
  have H_is_number : HasF l.prog w K mg base 2 "is_number" ["value", "least", "most"] wf_is_number := (has_of F2 m2 b2 (ok_is_number F2 NB H_is_integer)).imp le_is_number
  have H_check_number : HasF l.prog w K mg base 3 "check_number" ["value", "least", "most", "name"] wf_check_number := (has_of F3 m3 b3 (ok_check_number F3 NB H_is_number Zx0)).imp le_check_number
  have H_check_size : HasF l.prog w K mg base 4 "check_size" ["size"] wf_check_size := (has_of F4 m4 b4 (ok_check_size F4 NB H_check_number ⟨_, mc0⟩)).imp le_check_size
  have H_moebius : HasF l.prog w K mg base 1 "moebius" ["number"] wf_moebius := (has_of F5 m5 b5 (ok_moebius F5 NB)).imp le_moebius
  have H_primitive_rings : HasF l.prog w K mg base 2 "primitive_rings" ["around", "length"] wf_primitive_rings := (has_of F6 m6 b6 (ok_primitive_rings F6 NB H_moebius)).imp le_primitive_rings
  have H_power : HasF l.prog w K mg base 1 "power" ["base", "many"] wf_power := (has_of F7 m7 b7 (ok_power F7 NB)).imp le_power
  have H_count_rings : HasF l.prog w K mg base 3 "count_rings" ["size", "length"] wf_count_rings := (has_of F8 m8 b8 (ok_count_rings F8 NB H_primitive_rings H_power)).imp le_count_rings
  have H_necklaces : HasF l.prog w K mg base 5 "necklaces" ["size", "length"] wf_necklaces := (has_of F9 m9 b9 (ok_necklaces F9 NB H_check_size H_check_number H_count_rings ⟨_, mc1⟩)).imp le_necklaces
  have H__law_next : HasF l.prog w K mg base 1 "_law_next" ["stream", "many"] wf__law_next := has_next F10 m10 b10 NB
  have H__law_is_integer : HasF l.prog w K mg base 1 "_law_is_integer" ["actual"] wf__law_is_integer := (has_of F11 m11 b11 (ok__law_is_integer F11 NB)).imp le__law_is_integer
  have H__law_strings : HasF l.prog w K mg base 1 "_law_strings" ["size", "length"] wf__law_strings := (has_of F12 m12 b12 (ok__law_strings F12 NB)).imp le__law_strings
  have H__law_turnings : HasF l.prog w K mg base 1 "_law_turnings" ["ring"] wf__law_turnings := (has_of F13 m13 b13 (ok__law_turnings F13 NB)).imp le__law_turnings
  have H__law_is_primitive : HasF l.prog w K mg base 2 "_law_is_primitive" ["ring"] wf__law_is_primitive := (has_of F14 m14 b14 (ok__law_is_primitive F14 NB H__law_turnings)).imp le__law_is_primitive
  have H__law_necklaces : HasF l.prog w K mg base 3 "_law_necklaces" ["size", "length"] wf__law_necklaces := (has_of F15 m15 b15 (ok__law_necklaces F15 NB H__law_strings H__law_is_primitive H__law_turnings)).imp le__law_necklaces
  exact ok_law F16 NB GS k0 b0 m0 H_necklaces H__law_next H__law_is_integer H__law_necklaces law_hw
end Sy
open PySem PySem.W PyProof.Rows
set_option maxHeartbeats 0 in
theorem PySem.Challenge.cw_syncedwords_k44_whole_necklaces_holds : PySem.Challenge.rw_syncedwords_k44_whole_necklaces.Holds := by
  w_on; o_law; k_head; (case hw => w_witness2)
  k_fill
  refine L2.walk_of (l := PySem.Challenge.rw_syncedwords_k44_whole_necklaces) (n := 63) (k := 6) (x := "script") (CX := fun w => L2.CX PySem.Challenge.rw_syncedwords_k44_whole_necklaces.prog w) (sp := fun w => SyP.spLaw _) rfl (by decide) rfl ⟨rfl, by decide, by decide⟩ (fun w h Y => PySem.W.kIn_of Y) ?F (fun _ _ a ns hl _ hS => ⟨a, ns, rfl, hS, hl, fun _ => rfl⟩) (fun _ _ _ _ _ h => by obtain ⟨_, _, _, _, _, _, _, _, _, _, _, _, z⟩ := h; exact z)
  case F =>
    intro w mg fa h KX G hmg
    refine' Sy.all_mk KX G hmg ?a0 ?l0 ?c0 ?k0 ?a1 ?l1 ?c1 ?k1 ?a2 ?l2 ?c2 ?k2 ?a3 ?l3 ?c3 ?k3 ?a4 ?l4 ?c4 ?k4 ?a5 ?l5 ?c5 ?k5 ?a6 ?l6 ?c6 ?k6 ?a7 ?l7 ?c7 ?k7 ?a8 ?l8 ?c8 ?k8 ?a9 ?l9 ?c9 ?k9 ?a10 ?l10 ?c10 ?k10 ?a11 ?l11 ?c11 ?k11 ?a12 ?l12 ?c12 ?k12 ?a13 ?l13 ?c13 ?k13 ?a14 ?l14 ?c14 ?k14 ?a15 ?l15 ?c15 ?k15 ?a16 ?l16 ?c16 ?k16 ?yy0 ?yy1 ?z_isinstance ?z_str ?z_len ?z_all ?z_any ?z_tuple ?z_set ?z_list ?z_abs ?z_int ?z_bool ?z_range ?z_sum ?z_reversed ?z_zip ?z_enumerate ?z_min ?z_max ?z_sorted ?gxx0 ?xlx0 ?sax0 ?gax0 ?ggx0 ?nfx0 ?iax0 ?itx0 ?ilx0 ?icx0 ?ikx0 ?kCx0 ?eCx0 ?tCx0 ?hCx0 ?iCx0 ?sCx0
    (case a0 => k_is)
    (case l0 => k_is)
    (case c0 => k_is)
    (case k0 => k_is)
    (case a1 => k_is)
    (case l1 => k_is)
    (case c1 => k_is)
    (case k1 => k_is)
    (case a2 => k_is)
    (case l2 => k_is)
    (case c2 => k_is)
    (case k2 => k_is)
    (case a3 => k_is)
    (case l3 => k_is)
    (case c3 => k_is)
    (case k3 => k_is)
    (case a4 => k_is)
    (case l4 => k_is)
    (case c4 => k_is)
    (case k4 => k_is)
    (case a5 => k_is)
    (case l5 => k_is)
    (case c5 => k_is)
    (case k5 => k_is)
    (case a6 => k_is)
    (case l6 => k_is)
    (case c6 => k_is)
    (case k6 => k_is)
    (case a7 => k_is)
    (case l7 => k_is)
    (case c7 => k_is)
    (case k7 => k_is)
    (case a8 => k_is)
    (case l8 => k_is)
    (case c8 => k_is)
    (case k8 => k_is)
    (case a9 => k_is)
    (case l9 => k_is)
    (case c9 => k_is)
    (case k9 => k_is)
    (case a10 => k_is)
    (case l10 => k_is)
    (case c10 => k_is)
    (case k10 => k_is)
    (case a11 => k_is)
    (case l11 => k_is)
    (case c11 => k_is)
    (case k11 => k_is)
    (case a12 => k_is)
    (case l12 => k_is)
    (case c12 => k_is)
    (case k12 => k_is)
    (case a13 => k_is)
    (case l13 => k_is)
    (case c13 => k_is)
    (case k13 => k_is)
    (case a14 => k_is)
    (case l14 => k_is)
    (case c14 => k_is)
    (case k14 => k_is)
    (case a15 => k_is)
    (case l15 => k_is)
    (case c15 => k_is)
    (case k15 => k_is)
    (case a16 => k_is)
    (case l16 => k_is)
    (case c16 => k_is)
    (case k16 => k_is)
    (case yy0 => k_is)
    (case yy1 => k_is)
    (case z_isinstance => k_is)
    (case z_str => k_is)
    (case z_len => k_is)
    (case z_all => k_is)
    (case z_any => k_is)
    (case z_tuple => k_is)
    (case z_set => k_is)
    (case z_list => k_is)
    (case z_abs => k_is)
    (case z_int => k_is)
    (case z_bool => k_is)
    (case z_range => k_is)
    (case z_sum => k_is)
    (case z_reversed => k_is)
    (case z_zip => k_is)
    (case z_enumerate => k_is)
    (case z_min => k_is)
    (case z_max => k_is)
    (case z_sorted => k_is)
    (case gxx0 => k_is)
    (case xlx0 => k_is)
    (case sax0 => k_is)
    (case gax0 => k_is)
    (case ggx0 => k_is)
    (case nfx0 => k_is)
    (case iax0 => k_is)
    (case itx0 => k_is)
    (case ilx0 => k_is)
    (case icx0 => k_is)
    (case ikx0 => k_is)
    (case kCx0 => k_is)
    (case eCx0 => k_is)
    (case tCx0 => k_is)
    (case hCx0 => k_is)
    (case iCx0 => k_is)
    (case sCx0 => first | rfl | k_is)
