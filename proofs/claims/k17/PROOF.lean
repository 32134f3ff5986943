import PyProof.Rows.All
import Wide.All
import OpenK.AllK
import Wide.FinOn
import HandS.ForMost
import HandS.ForExc
import HandS.Deep
import HandS.TupAny
import HandS.IsInst
import HandS.Exc
import HandS.Walk
import HandS.Zip
import HandS.Style
import HandS.WordsExc
import HandS.ExcOwn
import HandS.ExcInit
import HandS.ExcField
import HandS.Replace
import HandS.Base
import HandS.Call
import HandS.List
import HandS.Comp
import HandS.Iter
import HandS.Text
import HandS.Ends
import HandS.Words
import HandS.WordsList
import HandS.Strs
import KE.KxIndex
import KE.KEqSeq
import HandS.RevRange
import HandS.Conv
import KE.KRevSl
import PyProof.Rows.SortStr
import KE.GoesMore
import HandS.SortOrd
import HandS.SortRule
import HandS.TupSets
import HandS.Codes
import HandS.FltList
import HandS.Rev
import HandS.SortInts
import HandS.Gcd
import KE.SortData
import KE.DataMinMax
import PySem.Challenge.RW_syncedwords_k17_whole_roots_and_least_ro
set_option Elab.async false
set_option linter.all false
set_option maxRecDepth 100000
namespace Sy
open PySem PySem.Spec PyProof.Rows L2
/-- a stream at s: a list of a list at l, a rest, and how many numbers were taken -/
def Strm (l : Addr) (H : Hp) (s : Addr) : Prop := l ≠ s ∧ ∃ (ns : List Int) (x k : Int), H l = some (.lst (ns.map V.int)) ∧ ns.length ≤ 63 ∧ H s = some (.lst [.ref l, .int x, .int k]) ∧ 0 ≤ x ∧ 0 ≤ k
end Sy
set_option autoImplicit false
/-! Pure words 1: values as trees, what stands for them in a heap, the state of a body. -/
namespace SyP
open PySem PySem.Spec PyProof.Rows L2 Sy

/-- a value as a tree -/
inductive PV where
  | non | bl (b : Bool) | int (i : Int) | str (x : Str) | tup (l : List PV) | lst (l : List PV) | dic (ks vs : List PV) | strm
/-- a value at a name or just made: frozen; a list or dict that it alone holds; the one that a slot holds, looked at -/
inductive AV where
  | fz (p : PV) | ow (p : PV) | br (i : Nat)
abbrev SA := Option (Addr × Addr)
def kP : Key → PV
  | .inl i => .int i
  | .inr x => .str x
/-- what stands in a dict -/
def HD (H : Hp) (a : Addr) (ks : List PV) (vs : List V) : Prop :=
  (∃ kvs, Rd H a (.dK kvs) ∧ ks = kvs.map (fun k => kP k.1) ∧ vs = kvs.map (·.2)) ∨ ∃ kvs, Rd H a (.dT kvs) ∧ ks = kvs.map (fun k => PV.tup (k.1.map kP)) ∧ vs = kvs.map (·.2)
mutual
def Rep (K : PySem.W.Frag) (sa : SA) (H : Hp) : PV → V → Prop
  | .non, v => v = .non
  | .bl b, v => v = .bl b
  | .int i, v => v = .int i
  | .str x, v => v = .str x
  | .tup l, v => ∃ a vs, v = .ref a ∧ SqT K H a vs ∧ Reps K sa H l vs
  | .lst l, v => ∃ a vs, v = .ref a ∧ H a = some (.lst vs) ∧ Reps K sa H l vs
  | .dic ks l, v => ∃ a vs, v = .ref a ∧ HD H a ks vs ∧ Reps K sa H l vs
  | .strm, v => ∃ l s, sa = some (l, s) ∧ v = .ref s
def Reps (K : PySem.W.Frag) (sa : SA) (H : Hp) : List PV → List V → Prop
  | [], vs => vs = []
  | p :: ps, vs => ∃ v r, vs = v :: r ∧ Rep K sa H p v ∧ Reps K sa H ps r
end
variable {K : PySem.W.Frag} {sa : SA} {H H' : Hp}
theorem Rd.same {H H' : Hp} {a : Addr} {u : HO} (s : Same H H') (h : Rd H a u) : Rd H' a u := by
  rcases h with h | ⟨o, h⟩
  · exact .inl (s _ _ h)
  · exact .inr ⟨o, s _ _ h⟩
theorem SqT.same {H H' : Hp} {a : Addr} {xs : List V} (s : Same H H') (h : SqT K H a xs) : SqT K H' a xs := by
  rcases h with h | h
  · exact .inl (Rd.same s h)
  · exact .inr h
theorem SqL.same {H H' : Hp} {a : Addr} {xs : List V} (s : Same H H') (h : SqL K H a xs) : SqL K H' a xs := by
  rcases h with h | h
  · exact .inl (Rd.same s h)
  · exact .inr h
theorem HD.same {H H' : Hp} {a : Addr} {ks : List PV} {vs : List V} (s : Same H H') (h : HD H a ks vs) : HD H' a ks vs := by
  rcases h with ⟨kvs, h, e⟩ | ⟨kvs, h, e⟩
  · exact .inl ⟨kvs, Rd.same s h, e⟩
  · exact .inr ⟨kvs, Rd.same s h, e⟩
mutual
theorem Rep.same (s : Same H H') : ∀ {p : PV} {v : V}, Rep K sa H p v → Rep K sa H' p v
  | .non, _, h => by unfold Rep at h ⊢; exact h
  | .bl b, _, h => by unfold Rep at h ⊢; exact h
  | .int i, _, h => by unfold Rep at h ⊢; exact h
  | .str x, _, h => by unfold Rep at h ⊢; exact h
  | .tup l, _, h => by unfold Rep at h ⊢; obtain ⟨a, vs, e, h1, h2⟩ := h; exact ⟨a, vs, e, SqT.same s h1, Reps.same s h2⟩
  | .lst l, _, h => by unfold Rep at h ⊢; obtain ⟨a, vs, e, h1, h2⟩ := h; exact ⟨a, vs, e, s _ _ h1, Reps.same s h2⟩
  | .dic ks l, _, h => by unfold Rep at h ⊢; obtain ⟨a, vs, e, h1, h2⟩ := h; exact ⟨a, vs, e, HD.same s h1, Reps.same s h2⟩
  | .strm, _, h => by unfold Rep at h ⊢; exact h
theorem Reps.same (s : Same H H') : ∀ {ps : List PV} {vs : List V}, Reps K sa H ps vs → Reps K sa H' ps vs
  | [], _, h => by unfold Reps at h ⊢; exact h
  | p :: ps, _, h => by unfold Reps at h ⊢; obtain ⟨v, r, e, h1, h2⟩ := h; exact ⟨v, r, e, Rep.same s h1, Reps.same s h2⟩
end
theorem Reps.length : ∀ {ps : List PV} {vs : List V}, Reps K sa H ps vs → vs.length = ps.length
  | [], _, h => by unfold Reps at h; rw [h]; rfl
  | p :: ps, _, h => by
    unfold Reps at h
    obtain ⟨v, r, e, _, h2⟩ := h
    rw [e, List.length_cons, List.length_cons, Reps.length h2]
theorem Reps.nil : Reps K sa H [] [] := by unfold Reps; rfl
theorem Reps.cons {p : PV} {v : V} {ps : List PV} {vs : List V} (h : Rep K sa H p v) (t : Reps K sa H ps vs) : Reps K sa H (p :: ps) (v :: vs) := by unfold Reps; exact ⟨v, vs, rfl, h, t⟩
theorem Reps.append : ∀ {ps qs : List PV} {vs us : List V}, Reps K sa H ps vs → Reps K sa H qs us → Reps K sa H (ps ++ qs) (vs ++ us)
  | [], _, _, _, h, t => by unfold Reps at h; subst h; exact t
  | p :: ps, _, _, _, h, t => by
    unfold Reps at h
    obtain ⟨v, r, rfl, h1, h2⟩ := h
    exact Reps.cons h1 (Reps.append h2 t)
theorem Reps.get : ∀ {ps : List PV} {vs : List V} {i : Nat} {p : PV}, Reps K sa H ps vs → ps[i]? = some p → ∃ v, vs[i]? = some v ∧ Rep K sa H p v
  | [], _, _, _, h, e => by simp at e
  | q :: ps, _, 0, _, h, e => by
    unfold Reps at h
    obtain ⟨v, r, rfl, h1, h2⟩ := h
    simp at e
    subst e
    exact ⟨v, rfl, h1⟩
  | q :: ps, _, i + 1, _, h, e => by
    unfold Reps at h
    obtain ⟨v, r, rfl, h1, h2⟩ := h
    obtain ⟨u, e1, e2⟩ := Reps.get (i := i) h2 (by simpa using e)
    exact ⟨u, by simpa using e1, e2⟩
theorem Reps.get' {ps : List PV} {vs : List V} {i : Nat} {v : V} (h : Reps K sa H ps vs) (e : vs[i]? = some v) : ∃ p, ps[i]? = some p ∧ Rep K sa H p v := by
  have hl := h.length
  have hi : i < ps.length := by
    have := (List.getElem?_eq_some_iff.mp e).1
    omega
  obtain ⟨u, e1, e2⟩ := h.get (List.getElem?_eq_getElem hi)
  rw [e] at e1
  cases e1
  exact ⟨_, List.getElem?_eq_getElem hi, e2⟩
theorem Reps.take : ∀ {ps : List PV} {vs : List V} (n : Nat), Reps K sa H ps vs → Reps K sa H (ps.take n) (vs.take n)
  | _, _, 0, _ => by simp only [List.take_zero]; exact Reps.nil
  | [], _, n + 1, h => by unfold Reps at h; subst h; exact Reps.nil
  | p :: ps, _, n + 1, h => by
    unfold Reps at h
    obtain ⟨v, r, rfl, h1, h2⟩ := h
    exact Reps.cons h1 (Reps.take n h2)
theorem Reps.drop : ∀ {ps : List PV} {vs : List V} (n : Nat), Reps K sa H ps vs → Reps K sa H (ps.drop n) (vs.drop n)
  | _, _, 0, h => h
  | [], _, n + 1, h => by unfold Reps at h; subst h; exact Reps.nil
  | p :: ps, _, n + 1, h => by
    unfold Reps at h
    obtain ⟨v, r, rfl, h1, h2⟩ := h
    exact Reps.drop n h2
theorem Reps.set : ∀ {ps : List PV} {vs : List V} (i : Nat) {p : PV} {v : V}, Rep K sa H p v → Reps K sa H ps vs → Reps K sa H (ps.set i p) (vs.set i v)
  | [], _, _, _, _, _, h => by unfold Reps at h; subst h; exact Reps.nil
  | q :: ps, _, 0, p, v, hp, h => by
    unfold Reps at h
    obtain ⟨u, r, rfl, h1, h2⟩ := h
    exact Reps.cons hp h2
  | q :: ps, _, i + 1, p, v, hp, h => by
    unfold Reps at h
    obtain ⟨u, r, rfl, h1, h2⟩ := h
    exact Reps.cons h1 (Reps.set i hp h2)
theorem Reps.reverse {ps : List PV} {vs : List V} (h : Reps K sa H ps vs) : Reps K sa H ps.reverse vs.reverse := by
  induction ps generalizing vs with
  | nil => unfold Reps at h; subst h; exact Reps.nil
  | cons p ps ih =>
    unfold Reps at h
    obtain ⟨v, r, rfl, h1, h2⟩ := h
    rw [List.reverse_cons, List.reverse_cons]
    exact Reps.append (ih h2) (Reps.cons h1 Reps.nil)
/-! ### the state of a body -/
/-- what the body's caller holds: the stream, the heap at the entry, what no frozen value leans on -/
structure Gh where
  sa : SA
  H0 : Hp
  O : Addr → Prop
def saOk (sa : SA) (H : Hp) : Prop := ∀ l s, sa = some (l, s) → Strm l H s
/-- all but the stream is as it was -/
def Fra (sa : SA) (H H' : Hp) : Prop := ∀ b o, (∀ l s, sa = some (l, s) → b ≠ s) → H b = some o → H' b = some o
theorem Fra.refl : Fra sa H H := fun _ _ _ h => h
theorem Fra.trans {H1 : Hp} (a : Fra sa H H1) (b : Fra sa H1 H') : Fra sa H H' := fun c o n h => b c o n (a c o n h)
theorem Fra.of (s : Same H H') : Fra sa H H' := fun b o _ h => s b o h
open Classical in
noncomputable def msk (P : Addr → Prop) (H : Hp) : Hp := fun a => if P a then none else H a
theorem msk_of {P : Addr → Prop} {a : Addr} (h : ¬ P a) : msk P H a = H a := by unfold msk; rw [if_neg h]
theorem of_msk {P : Addr → Prop} {a : Addr} {o : HO} (h : msk P H a = some o) : ¬ P a ∧ H a = some o := by
  unfold msk at h
  split at h
  · cases h
  · rename_i n
    exact ⟨n, h⟩
theorem msk_same {P P' : Addr → Prop} (h : ∀ a o, ¬ P a → H a = some o → ¬ P' a ∧ H' a = some o) : Same (msk P H) (msk P' H') := fun a o e => by
  obtain ⟨n, e⟩ := of_msk e
  obtain ⟨n', e'⟩ := h a o n e
  rw [msk_of n']
  exact e'
theorem msk_top {P : Addr → Prop} : Same (msk P H) H := fun a o e => (of_msk e).2
abbrev En := List (Option AV)
abbrev Ts := List (AV × V)
/-- the value is a list or dict of its own, at a -/
def OwAt (e : AV × V) (a : Addr) : Prop := (∃ p, e.1 = .ow p) ∧ e.2 = .ref a
def SlAt (ρ : En) (σ : L2.St) (i : Nat) (e : AV × V) : Prop := ρ[i]? = some (some e.1) ∧ σ[i]? = some (some e.2)
def Owns (ρ : En) (ts : Ts) (σ : L2.St) (a : Addr) : Prop := (∃ i e, SlAt ρ σ i e ∧ OwAt e a) ∨ ∃ e ∈ ts, OwAt e a
/-- an object that is held alone -/
def Obj1 (K : PySem.W.Frag) (sa : SA) (Hm H : Hp) (a : Addr) : PV → Prop
  | .lst l => ∃ vs, H a = some (.lst vs) ∧ Reps K sa Hm l vs
  | .dic ks l => (∃ kvs, H a = some (.dK kvs) ∧ ks = kvs.map (fun k => kP k.1) ∧ Reps K sa Hm l (kvs.map (·.2))) ∨ ∃ kvs, H a = some (.dT kvs) ∧ ks = kvs.map (fun k => PV.tup (k.1.map kP)) ∧ Reps K sa Hm l (kvs.map (·.2))
  | _ => False
def Ent (K : PySem.W.Frag) (sa : SA) (Hm H : Hp) : AV → V → Prop
  | .fz p, v => Rep K sa Hm p v
  | .ow p, v => ∃ a, v = .ref a ∧ Obj1 K sa Hm H a p
  | .br _, _ => False
def Tmp (K : PySem.W.Frag) (sa : SA) (Hm H : Hp) (σ : L2.St) : AV → V → Prop
  | .br i, v => σ[i]? = some (some v)
  | r, v => Ent K sa Hm H r v
def OA (G : Gh) (ρ : En) (ts : Ts) (σ : L2.St) (a : Addr) : Prop := Owns ρ ts σ a ∨ G.O a
structure Sta (K : PySem.W.Frag) (G : Gh) (ρ : En) (ts : Ts) (σ : L2.St) (H : Hp) : Prop where
  len : ρ.length = σ.length
  fr : Fra G.sa G.H0 H
  sk : saOk G.sa H
  so : ∀ l s, G.sa = some (l, s) → G.O s
  lo : ∀ l s, G.sa = some (l, s) → G.H0 l ≠ none
  od : ∀ a, G.O a → G.H0 a ≠ none
  new : ∀ a, Owns ρ ts σ a → G.H0 a = none
  slot : ∀ (i : Nat) (r : AV), ρ[i]? = some (some r) → ∃ v, σ[i]? = some (some v) ∧ Ent K G.sa (msk (OA G ρ ts σ) H) H r v
  tmp : ∀ e ∈ ts, Tmp K G.sa (msk (OA G ρ ts σ) H) H σ e.1 e.2
  dS : ∀ i j e f a, SlAt ρ σ i e → SlAt ρ σ j f → OwAt e a → OwAt f a → i = j
  dX : ∀ i e f a, SlAt ρ σ i e → f ∈ ts → OwAt e a → OwAt f a → False
  dT : ts.Pairwise fun e f => ∀ a, OwAt e a → OwAt f a → False
  brn : ∀ e ∈ ts, ∀ i, e.1 = .br i → ∃ r, ρ[i]? = some (some r)

variable {G : Gh} {ρ ρ' : En} {ts ts' : Ts} {σ : L2.St}
/-! ### what follows for the state -/
theorem Ent.mono {Hm Hm' H H' : Hp} (s : Same Hm Hm') (h : ∀ a p, Obj1 K sa Hm H a p → Obj1 K sa Hm' H' a p) : ∀ {r : AV} {v : V}, Ent K sa Hm H r v → Ent K sa Hm' H' r v
  | .fz _, _, e => Rep.same s e
  | .ow _, _, ⟨a, e, o⟩ => ⟨a, e, h a _ o⟩
theorem Obj1.same {Hm Hm' H H' : Hp} {a : Addr} (s : Same Hm Hm') (t : ∀ o, H a = some o → H' a = some o) : ∀ {p : PV}, Obj1 K sa Hm H a p → Obj1 K sa Hm' H' a p
  | .lst _, ⟨vs, h, r⟩ => ⟨vs, t _ h, Reps.same s r⟩
  | .dic _ _, .inl ⟨kvs, h, e, r⟩ => .inl ⟨kvs, t _ h, e, Reps.same s r⟩
  | .dic _ _, .inr ⟨kvs, h, e, r⟩ => .inr ⟨kvs, t _ h, e, Reps.same s r⟩
theorem OwAt.ow {p : PV} {a : Addr} : OwAt (.ow p, .ref a) a := ⟨⟨p, rfl⟩, rfl⟩
theorem OwAt.not_fz {p : PV} {v : V} {a : Addr} (h : OwAt (.fz p, v) a) : False := by
  obtain ⟨⟨q, e⟩, _⟩ := h
  cases e
theorem OwAt.not_br {i : Nat} {v : V} {a : Addr} (h : OwAt (.br i, v) a) : False := by
  obtain ⟨⟨q, e⟩, _⟩ := h
  cases e
/-- the state where what is held, the heap and the temporaries change so that all stays shown: the general step -/
theorem Sta.step {ts' : Ts} (S : Sta K G ρ ts σ H) (fr : ∀ b o, (∀ l s, G.sa = some (l, s) → b ≠ s) → ¬ Owns ρ ts σ b → H b = some o → H' b = some o) (ow : ∀ i e a, SlAt ρ σ i e → OwAt e a → ∀ o, H a = some o → H' a = some o)
    (sk : saOk G.sa H') (hn : ∀ a, Owns ρ ts' σ a → ¬ Owns ρ ts σ a → H a = none)
    (hO : ∀ a o, ¬ OA G ρ ts σ a → H a = some o → ¬ Owns ρ ts' σ a)
    (tmp : Same (msk (OA G ρ ts σ) H) (msk (OA G ρ ts' σ) H') → ∀ e ∈ ts', Tmp K G.sa (msk (OA G ρ ts' σ) H') H' σ e.1 e.2)
    (dX : ∀ i e f a, SlAt ρ σ i e → f ∈ ts' → OwAt e a → OwAt f a → False) (dT : ts'.Pairwise fun e f => ∀ a, OwAt e a → OwAt f a → False) (brn : ∀ e ∈ ts', ∀ i, e.1 = .br i → ∃ r, ρ[i]? = some (some r)) : Sta K G ρ ts' σ H' := by
  have sm : Same (msk (OA G ρ ts σ) H) (msk (OA G ρ ts' σ) H') := msk_same fun a o n e => by
    have n1 : ¬ Owns ρ ts σ a := fun z => n (.inl z)
    refine ⟨fun z => ?_, fr a o (fun l s e' z => n (.inr (z ▸ S.so l s e'))) n1 e⟩
    rcases z with z | z
    · exact hO a o n e z
    · exact n (.inr z)
  refine ⟨S.len, ?_, sk, S.so, S.lo, S.od, fun a ha => ?_, fun i r e => ?_, tmp sm, S.dS, dX, dT, brn⟩
  · intro b o nb e
    have h1 := S.fr b o nb e
    by_cases z : Owns ρ ts σ b
    · rw [S.new b z] at e
      cases e
    · exact fr b o nb z h1
  · by_cases z : Owns ρ ts σ a
    · exact S.new a z
    · have := hn a ha z
      cases q : G.H0 a with
      | none => rfl
      | some o =>
        by_cases ns : ∀ l s, G.sa = some (l, s) → a ≠ s
        · rw [S.fr a o ns q] at this
          cases this
        · have : ∃ l s, G.sa = some (l, s) ∧ a = s := Classical.byContradiction fun hc => ns fun l s e z => hc ⟨l, s, e, z⟩
          obtain ⟨l, s, e, rfl⟩ := this
          obtain ⟨_, _, _, _, _, _, h3, _⟩ := S.sk l a e
          rw [h3] at this
          cases this
  · obtain ⟨v, e1, e2⟩ := S.slot i r e
    refine ⟨v, e1, ?_⟩
    cases r with
    | fz p => exact Rep.same sm e2
    | ow p =>
      obtain ⟨a, rfl, o⟩ := e2
      exact ⟨a, rfl, o.same sm (ow i (.ow p, .ref a) a ⟨e, e1⟩ .ow)⟩
    | br j => exact e2
/-- nothing that is held changes, more may be there -/
theorem Sta.keep (S : Sta K G ρ ts σ H) (s : Same H H') (sk : saOk G.sa H') : Sta K G ρ ts σ H' := by
  refine S.step (fun b o _ _ e => s b o e) (fun _ _ _ _ _ o e => s _ _ e) sk (fun a h n => absurd h n) (fun a o n _ z => n (.inl z)) (fun sm e he => ?_) S.dX S.dT S.brn
  have t := S.tmp e he
  obtain ⟨r, v⟩ := e
  cases r with
  | fz p => exact Rep.same sm t
  | ow p =>
    obtain ⟨a, e, o⟩ := t
    exact ⟨a, e, o.same sm fun o e => s _ _ e⟩
  | br j => exact t
theorem Strm.same {l s : Addr} {H H' : Hp} (e : Same H H') (h : Strm l H s) : Strm l H' s := by
  obtain ⟨ne, ns, x, k, h1, h2, h3, h4⟩ := h
  exact ⟨ne, ns, x, k, e _ _ h1, h2, e _ _ h3, h4⟩
theorem saOk.same (e : Same H H') (h : saOk sa H) : saOk sa H' := fun l s q => Strm.same e (h l s q)
theorem same_new {a : Addr} {o : HO} (n : H a = none) : Same H (upd H a o) := fun b u e => by rw [upd_ne (ne_of_none e n)]; exact e
/-- the temporaries in another row, or fewer of them -/
theorem Sta.sub (S : Sta K G ρ ts σ H) (h : ∀ e ∈ ts', e ∈ ts) (d : ts'.Pairwise fun e f => ∀ a, OwAt e a → OwAt f a → False) : Sta K G ρ ts' σ H := by
  refine S.step (fun b o _ _ e => e) (fun _ _ _ _ _ o e => e) S.sk (fun a z n => ?_) (fun a o n _ z => ?_) (fun sm e he => ?_) (fun i e f a hs hf => S.dX i e f a hs (h f hf)) d (fun e he => S.brn e (h e he))
  · rcases z with z | ⟨e, he, z⟩
    · exact absurd (.inl z) n
    · exact absurd (.inr ⟨e, h e he, z⟩) n
  · rcases z with z | ⟨e, he, z⟩
    · exact n (.inl (.inl z))
    · exact n (.inl (.inr ⟨e, h e he, z⟩))
  · have t := S.tmp e (h e he)
    obtain ⟨r, v⟩ := e
    cases r with
    | fz p => exact Rep.same sm t
    | ow p =>
      obtain ⟨a, e, o⟩ := t
      exact ⟨a, e, o.same sm fun o e => e⟩
    | br j => exact t
theorem Sta.pop {e : AV × V} (S : Sta K G ρ (e :: ts) σ H) : Sta K G ρ ts σ H := S.sub (fun f h => List.mem_cons_of_mem _ h) (List.pairwise_cons.mp S.dT).2
theorem OwAt.symm {ts : Ts} : ∀ {e f : AV × V}, (∀ a, OwAt e a → OwAt f a → False) → ∀ a, OwAt f a → OwAt e a → False := fun h a x y => h a y x
theorem Sta.perm (S : Sta K G ρ ts σ H) (p : List.Perm ts ts') : Sta K G ρ ts' σ H := S.sub (fun e h => p.symm.subset h) (p.pairwise S.dT fun h a x y => h a y x)
/-- one more, frozen, of what is not held -/
theorem Sta.push {p : PV} {v : V} (S : Sta K G ρ ts σ H) (h : Rep K G.sa (msk (OA G ρ ts σ) H) p v) : Sta K G ρ ((.fz p, v) :: ts) σ H := by
  have eq : ∀ a, Owns ρ ((.fz p, v) :: ts) σ a → Owns ρ ts σ a := fun a z => by
    rcases z with z | ⟨e, he, z⟩
    · exact .inl z
    · rcases List.mem_cons.mp he with rfl | he
      · exact z.not_fz.elim
      · exact .inr ⟨e, he, z⟩
  refine S.step (fun b o _ _ e => e) (fun _ _ _ _ _ o e => e) S.sk (fun a z n => absurd (eq a z) n) (fun a o n _ z => n (.inl (eq a z))) (fun sm e he => ?_) (fun i e f a hs hf x y => ?_) (List.pairwise_cons.mpr ⟨fun f _ a x _ => x.not_fz, S.dT⟩) (fun e he i ei => by
    rcases List.mem_cons.mp he with rfl | he
    · cases ei
    · exact S.brn e he i ei)
  · rcases List.mem_cons.mp he with rfl | he
    · exact Rep.same sm h
    · have t := S.tmp e he
      obtain ⟨r, v⟩ := e
      cases r with
      | fz p => exact Rep.same sm t
      | ow p =>
        obtain ⟨a, e, o⟩ := t
        exact ⟨a, e, o.same sm fun o e => e⟩
      | br j => exact t
  · rcases List.mem_cons.mp hf with rfl | hf
    · exact y.not_fz
    · exact S.dX i e f a hs hf x y
theorem Sta.pushBr {i : Nat} {v : V} (S : Sta K G ρ ts σ H) (h : σ[i]? = some (some v)) (hr : ∃ r, ρ[i]? = some (some r)) : Sta K G ρ ((.br i, v) :: ts) σ H := by
  have eq : ∀ a, Owns ρ ((.br i, v) :: ts) σ a → Owns ρ ts σ a := fun a z => by
    rcases z with z | ⟨e, he, z⟩
    · exact .inl z
    · rcases List.mem_cons.mp he with rfl | he
      · exact z.not_br.elim
      · exact .inr ⟨e, he, z⟩
  refine S.step (fun b o _ _ e => e) (fun _ _ _ _ _ o e => e) S.sk (fun a z n => absurd (eq a z) n) (fun a o n _ z => n (.inl (eq a z))) (fun sm e he => ?_) (fun i e f a hs hf x y => ?_) (List.pairwise_cons.mpr ⟨fun f _ a x _ => x.not_br, S.dT⟩) (fun e he j ei => by
    rcases List.mem_cons.mp he with rfl | he
    · cases ei
      exact hr
    · exact S.brn e he j ei)
  · rcases List.mem_cons.mp he with rfl | he
    · exact h
    · have t := S.tmp e he
      obtain ⟨r, v⟩ := e
      cases r with
      | fz p => exact Rep.same sm t
      | ow p =>
        obtain ⟨a, e, o⟩ := t
        exact ⟨a, e, o.same sm fun o e => e⟩
      | br j => exact t
  · rcases List.mem_cons.mp hf with rfl | hf
    · exact y.not_br
    · exact S.dX i e f a hs hf x y
/-- scalars -/
def Sc : PV → V → Prop
  | .non, v => v = .non
  | .bl b, v => v = .bl b
  | .int i, v => v = .int i
  | .str x, v => v = .str x
  | _, _ => False
theorem Sc.rep : ∀ {p : PV} {v : V}, Sc p v → Rep K sa H p v
  | .non, _, h => by unfold Rep; exact h
  | .bl _, _, h => by unfold Rep; exact h
  | .int _, _, h => by unfold Rep; exact h
  | .str _, _, h => by unfold Rep; exact h
theorem Sta.pushSc {p : PV} {v : V} (S : Sta K G ρ ts σ H) (h : Sc p v) : Sta K G ρ ((.fz p, v) :: ts) σ H := S.push h.rep
/-- what is tracked in the heap is no held address if it is read as frozen -/
theorem Rep.ow_same (S : Sta K G ρ ts σ H) {a : Addr} (n : H a = none) : ¬ OA G ρ ts σ a := by
  rintro (z | z)
  · rcases z with ⟨i, e, hs, h⟩ | ⟨e, he, h⟩
    · obtain ⟨⟨p, hp⟩, hv⟩ := h
      obtain ⟨v, e1, e2⟩ := S.slot i e.1 hs.1
      rw [hp] at e2
      obtain ⟨b, e3, o⟩ := e2
      have := e1.symm.trans hs.2
      rw [hv] at this
      cases this
      cases e3
      cases p with
      | lst l => obtain ⟨vs, h, _⟩ := o; rw [n] at h; cases h
      | dic ks l => rcases o with ⟨kvs, h, _⟩ | ⟨kvs, h, _⟩ <;> (rw [n] at h; cases h)
      | _ => exact o
    · obtain ⟨⟨p, hp⟩, hv⟩ := h
      have t := S.tmp e he
      rw [hp] at t
      obtain ⟨b, e3, o⟩ := t
      rw [hv] at e3
      cases e3
      cases p with
      | lst l => obtain ⟨vs, h, _⟩ := o; rw [n] at h; cases h
      | dic ks l => rcases o with ⟨kvs, h, _⟩ | ⟨kvs, h, _⟩ <;> (rw [n] at h; cases h)
      | _ => exact o
  · by_cases ns : ∀ l s, G.sa = some (l, s) → a ≠ s
    · cases q : G.H0 a with
      | none => exact S.od a z q
      | some o =>
        rw [S.fr a o ns q] at n
        cases n
    · have : ∃ l s, G.sa = some (l, s) ∧ a = s := Classical.byContradiction fun hc => ns fun l s e z => hc ⟨l, s, e, z⟩
      obtain ⟨l, s, e, rfl⟩ := this
      obtain ⟨_, _, _, _, _, _, h3, _⟩ := S.sk l a e
      rw [h3] at n
      cases n
/-- a new object, frozen -/
theorem Sta.newF {a : Addr} {o : HO} {p : PV} (S : Sta K G ρ ts σ H) (n : H a = none) (h : Rep K G.sa (msk (OA G ρ ts σ) (upd H a o)) p (.ref a)) : Sta K G ρ ((.fz p, .ref a) :: ts) σ (upd H a o) :=
  (S.keep (same_new n) (saOk.same (same_new n) S.sk)).push h
/-- a new object, held -/
theorem Sta.newO {a : Addr} {o : HO} {p : PV} (S : Sta K G ρ ts σ H) (n : H a = none) (h : Obj1 K G.sa (msk (OA G ρ ts σ) H) (upd H a o) a p) : Sta K G ρ ((.ow p, .ref a) :: ts) σ (upd H a o) := by
  have na := Rep.ow_same S n
  have s : Same H (upd H a o) := same_new n
  have eq : ∀ b, Owns ρ ((.ow p, .ref a) :: ts) σ b → b = a ∨ Owns ρ ts σ b := fun b z => by
    rcases z with z | ⟨e, he, z⟩
    · exact .inr (.inl z)
    · rcases List.mem_cons.mp he with rfl | he
      · obtain ⟨_, e⟩ := z
        cases e
        exact .inl rfl
      · exact .inr (.inr ⟨e, he, z⟩)
  have ne : ∀ e : AV × V, OwAt e a → (∃ i, SlAt ρ σ i e) ∨ e ∈ ts → False := fun e h m => na (.inl (m.elim (fun ⟨i, m⟩ => .inl ⟨i, e, m, h⟩) fun m => .inr ⟨e, m, h⟩))
  refine S.step (fun b o _ _ e => s b o e) (fun _ _ _ _ _ o e => s _ _ e) (saOk.same s S.sk) (fun b z nb => ?_) (fun b u nb e z => ?_) (fun sm e he => ?_) (fun i e f b hs hf x y => ?_) (List.pairwise_cons.mpr ⟨fun f hf b x y => ?_, S.dT⟩) (fun e he j ei => by
    rcases List.mem_cons.mp he with rfl | he
    · cases ei
    · exact S.brn e he j ei)
  · rcases eq b z with rfl | z
    · exact n
    · exact absurd z nb
  · rcases eq b z with rfl | z
    · rw [n] at e
      cases e
    · exact nb (.inl z)
  · rcases List.mem_cons.mp he with rfl | he
    · exact ⟨a, rfl, h.same sm fun o e => e⟩
    · have t := S.tmp e he
      obtain ⟨r, v⟩ := e
      cases r with
      | fz p => exact Rep.same sm t
      | ow p =>
        obtain ⟨a, e, o⟩ := t
        exact ⟨a, e, o.same sm fun o e => s _ _ e⟩
      | br j => exact t
  · rcases List.mem_cons.mp hf with rfl | hf
    · obtain ⟨_, e2⟩ := y
      cases e2
      exact ne e x (.inl ⟨i, hs⟩)
    · exact S.dX i e f b hs hf x y
  · obtain ⟨_, e2⟩ := x
    cases e2
    exact ne f y (.inr hf)
/-- a held temporary is let go: frozen -/
theorem Sta.frz {p : PV} {v : V} (S : Sta K G ρ ((.ow p, v) :: ts) σ H) : Sta K G ρ ((.fz p, v) :: ts) σ H := by
  obtain ⟨a, ev, o⟩ := S.tmp _ List.mem_cons_self
  obtain rfl : v = .ref a := ev
  have eq : ∀ b, Owns ρ ((.fz p, .ref a) :: ts) σ b → Owns ρ ((.ow p, .ref a) :: ts) σ b := fun b z => by
    rcases z with z | ⟨e, he, z⟩
    · exact .inl z
    · rcases List.mem_cons.mp he with rfl | he
      · exact z.not_fz.elim
      · exact .inr ⟨e, List.mem_cons_of_mem _ he, z⟩
  have na : ¬ OA G ρ ((.fz p, .ref a) :: ts) σ a := by
    rintro (z | z)
    · rcases z with ⟨i, e, hs, h⟩ | ⟨e, he, h⟩
      · exact S.dX i e _ a hs List.mem_cons_self h .ow
      · rcases List.mem_cons.mp he with rfl | he
        · exact h.not_fz
        · exact (List.pairwise_cons.mp S.dT).1 e he a .ow h
    · exact S.od a z (S.new a (.inr ⟨_, List.mem_cons_self, .ow⟩))
  refine S.step (fun b o _ _ e => e) (fun _ _ _ _ _ o e => e) S.sk (fun b z nb => absurd (eq b z) nb) (fun b u nb e z => nb (.inl (eq b z))) (fun sm e he => ?_) (fun i e f b hs hf x y => ?_) (List.pairwise_cons.mpr ⟨fun f hf b x y => x.not_fz, (List.pairwise_cons.mp S.dT).2⟩) (fun e he j ei => by
    rcases List.mem_cons.mp he with rfl | he
    · cases ei
    · exact S.brn e (List.mem_cons_of_mem _ he) j ei)
  · rcases List.mem_cons.mp he with rfl | he
    · show Rep K G.sa _ p (.ref a)
      cases p with
      | lst l =>
        obtain ⟨vs, h, r⟩ := o
        unfold Rep
        exact ⟨a, vs, rfl, by rw [msk_of na]; exact h, Reps.same sm r⟩
      | dic ks l =>
        unfold Rep
        rcases o with ⟨kvs, h, e, r⟩ | ⟨kvs, h, e, r⟩
        · exact ⟨a, _, rfl, .inl ⟨kvs, .inl (by rw [msk_of na]; exact h), e, rfl⟩, Reps.same sm r⟩
        · exact ⟨a, _, rfl, .inr ⟨kvs, .inl (by rw [msk_of na]; exact h), e, rfl⟩, Reps.same sm r⟩
      | _ => exact o.elim
    · have t := S.tmp e (List.mem_cons_of_mem _ he)
      obtain ⟨r, v⟩ := e
      cases r with
      | fz p => exact Rep.same sm t
      | ow p =>
        obtain ⟨a, e, o⟩ := t
        exact ⟨a, e, o.same sm fun o e => e⟩
      | br j => exact t
  · rcases List.mem_cons.mp hf with rfl | hf
    · exact y.not_fz
    · exact S.dX i e f b hs (List.mem_cons_of_mem _ hf) x y
end SyP
set_option autoImplicit false
/-! Pure words 2: slots stored, let go and changed; what comes back of a call. -/
namespace SyP
open PySem PySem.Spec PyProof.Rows L2 Sy
variable {K : PySem.W.Frag} {sa : SA} {H H' : Hp} {G : Gh} {ρ ρ' : En} {ts ts' : Ts} {σ σ' : L2.St}
theorem Sta.h0 (S : Sta K G ρ ts σ H) {a : Addr} (n : H a = none) : G.H0 a = none := by
  cases q : G.H0 a with
  | none => rfl
  | some o =>
    by_cases ns : ∀ l s, G.sa = some (l, s) → a ≠ s
    · rw [S.fr a o ns q] at n
      cases n
    · have : ∃ l s, G.sa = some (l, s) ∧ a = s := Classical.byContradiction fun hc => ns fun l s e z => hc ⟨l, s, e, z⟩
      obtain ⟨l, s, e, rfl⟩ := this
      obtain ⟨_, _, _, _, _, _, h3, _⟩ := S.sk l a e
      rw [h3] at n
      cases n
theorem Sta.gen (S : Sta K G ρ ts σ H) (len : ρ'.length = σ'.length) (fr : ∀ b o, (∀ l s, G.sa = some (l, s) → b ≠ s) → ¬ Owns ρ ts σ b → H b = some o → H' b = some o)
    (sk : saOk G.sa H') (hn : ∀ a, Owns ρ' ts' σ' a → ¬ Owns ρ ts σ a → H a = none) (hO : ∀ a o, ¬ OA G ρ ts σ a → H a = some o → ¬ Owns ρ' ts' σ' a)
    (slot : Same (msk (OA G ρ ts σ) H) (msk (OA G ρ' ts' σ') H') → ∀ (i : Nat) (r : AV), ρ'[i]? = some (some r) → ∃ v, σ'[i]? = some (some v) ∧ Ent K G.sa (msk (OA G ρ' ts' σ') H') H' r v)
    (tmp : Same (msk (OA G ρ ts σ) H) (msk (OA G ρ' ts' σ') H') → ∀ e ∈ ts', Tmp K G.sa (msk (OA G ρ' ts' σ') H') H' σ' e.1 e.2)
    (dS : ∀ i j e f a, SlAt ρ' σ' i e → SlAt ρ' σ' j f → OwAt e a → OwAt f a → i = j)
    (dX : ∀ i e f a, SlAt ρ' σ' i e → f ∈ ts' → OwAt e a → OwAt f a → False) (dT : ts'.Pairwise fun e f => ∀ a, OwAt e a → OwAt f a → False) (brn : ∀ e ∈ ts', ∀ i, e.1 = .br i → ∃ r, ρ'[i]? = some (some r)) : Sta K G ρ' ts' σ' H' := by
  have sm : Same (msk (OA G ρ ts σ) H) (msk (OA G ρ' ts' σ') H') := msk_same fun a o n e => by
    have n1 : ¬ Owns ρ ts σ a := fun z => n (.inl z)
    refine ⟨fun z => ?_, fr a o (fun l s e' z => n (.inr (z ▸ S.so l s e'))) n1 e⟩
    rcases z with z | z
    · exact hO a o n e z
    · exact n (.inr z)
  refine ⟨len, ?_, sk, S.so, S.lo, S.od, fun a ha => ?_, slot sm, tmp sm, dS, dX, dT, brn⟩
  · intro b o nb e
    have h1 := S.fr b o nb e
    by_cases z : Owns ρ ts σ b
    · rw [S.new b z] at e
      cases e
    · exact fr b o nb z h1
  · by_cases z : Owns ρ ts σ a
    · exact S.new a z
    · exact S.h0 (hn a ha z)
theorem SlAt.set_ne {i j : Nat} {x : Option AV} {y : Option V} {e : AV × V} (h : SlAt (ρ.set i x) (σ.set i y) j e) (n : j ≠ i) : SlAt ρ σ j e := by
  obtain ⟨a, b⟩ := h
  rw [List.getElem?_set_ne (Ne.symm n)] at a b
  exact ⟨a, b⟩
theorem SlAt.set_eq {i : Nat} {x : Option AV} {y : Option V} {e : AV × V} (h : SlAt (ρ.set i x) (σ.set i y) i e) : x = some e.1 ∧ y = some e.2 := by
  obtain ⟨a, b⟩ := h
  have l1 : i < ρ.length := by
    have := (List.getElem?_eq_some_iff.mp a).1
    rwa [List.length_set] at this
  have l2 : i < σ.length := by
    have := (List.getElem?_eq_some_iff.mp b).1
    rwa [List.length_set] at this
  rw [List.getElem?_set_self l1] at a
  rw [List.getElem?_set_self l2] at b
  exact ⟨Option.some.inj a, Option.some.inj b⟩
theorem set_self_get {α : Type} {l : List α} {i : Nat} {x : α} (h : l[i]? = some x) : l.set i x = l := by
  refine List.ext_getElem? fun j => ?_
  by_cases e : i = j
  · subst e
    rw [List.getElem?_set_self (List.getElem?_eq_some_iff.mp h).1, h]
  · rw [List.getElem?_set_ne e]
/-- a slot that holds a list or dict alone lets it go -/
theorem Sta.frzSlot {i : Nat} {p : PV} (S : Sta K G ρ ts σ H) (h : ρ[i]? = some (some (.ow p))) : Sta K G (ρ.set i (some (.fz p))) ts σ H := by
  obtain ⟨v, hv, a, rfl, o⟩ := S.slot i _ h
  have eσ : σ.set i (some (V.ref a)) = σ := set_self_get hv
  have li : i < ρ.length := (List.getElem?_eq_some_iff.mp h).1
  have sl : ∀ {j : Nat} {e : AV × V}, SlAt (ρ.set i (some (.fz p))) σ j e → (j = i ∧ e = (.fz p, .ref a)) ∨ (j ≠ i ∧ SlAt ρ σ j e) := fun {j e} q => by
    by_cases z : j = i
    · subst z
      rw [← eσ] at q
      obtain ⟨e1, e2⟩ := q.set_eq
      obtain ⟨e3, e4⟩ := e
      cases e1
      cases e2
      exact .inl ⟨rfl, rfl⟩
    · rw [← eσ] at q
      exact .inr ⟨z, q.set_ne z⟩
  have eq : ∀ b, Owns (ρ.set i (some (.fz p))) ts σ b → Owns ρ ts σ b := fun b z => by
    rcases z with ⟨j, e, hs, z⟩ | z
    · rcases sl hs with ⟨_, rfl⟩ | ⟨_, hs⟩
      · exact z.not_fz.elim
      · exact .inl ⟨j, e, hs, z⟩
    · exact .inr z
  have na : ¬ OA G (ρ.set i (some (.fz p))) ts σ a := by
    rintro (z | z)
    · rcases z with ⟨j, e, hs, z⟩ | ⟨e, he, z⟩
      · rcases sl hs with ⟨_, rfl⟩ | ⟨n, hs⟩
        · exact z.not_fz
        · exact n (S.dS j i e (.ow p, .ref a) a hs ⟨h, hv⟩ z .ow)
      · exact S.dX i (.ow p, .ref a) e a ⟨h, hv⟩ he .ow z
    · exact S.od a z (S.new a (.inl ⟨i, (.ow p, .ref a), ⟨h, hv⟩, .ow⟩))
  refine S.gen (by rw [List.length_set]; exact S.len) (fun b o _ _ e => e) S.sk (fun b z nb => absurd (eq b z) nb) (fun b u nb e z => nb (.inl (eq b z))) (fun sm j r e => ?_) (fun sm e he => ?_) (fun j k e f b hs hf x y => ?_) (fun j e f b hs hf x y => ?_) S.dT (fun e he j ej => by
    by_cases z : j = i
    · subst z
      exact ⟨_, List.getElem?_set_self li⟩
    · rw [List.getElem?_set_ne (Ne.symm z)]
      exact S.brn e he j ej)
  · by_cases z : j = i
    · subst z
      rw [List.getElem?_set_self li] at e
      cases e
      refine ⟨_, hv, ?_⟩
      show Rep K G.sa _ p (.ref a)
      cases p with
      | lst l =>
        obtain ⟨vs, h, r⟩ := o
        unfold Rep
        exact ⟨a, vs, rfl, by rw [msk_of na]; exact h, Reps.same sm r⟩
      | dic ks l =>
        unfold Rep
        rcases o with ⟨kvs, h, e, r⟩ | ⟨kvs, h, e, r⟩
        · exact ⟨a, _, rfl, .inl ⟨kvs, .inl (by rw [msk_of na]; exact h), e, rfl⟩, Reps.same sm r⟩
        · exact ⟨a, _, rfl, .inr ⟨kvs, .inl (by rw [msk_of na]; exact h), e, rfl⟩, Reps.same sm r⟩
      | _ => exact o.elim
    · rw [List.getElem?_set_ne (Ne.symm z)] at e
      obtain ⟨v, e1, e2⟩ := S.slot j r e
      refine ⟨v, e1, ?_⟩
      cases r with
      | fz p => exact Rep.same sm e2
      | ow p =>
        obtain ⟨b, rfl, o⟩ := e2
        exact ⟨b, rfl, o.same sm fun o e => e⟩
      | br j => exact e2
  · have t := S.tmp e he
    obtain ⟨r, v⟩ := e
    cases r with
    | fz p => exact Rep.same sm t
    | ow p =>
      obtain ⟨b, e, o⟩ := t
      exact ⟨b, e, o.same sm fun o e => e⟩
    | br j => exact t
  · rcases sl hs with ⟨_, rfl⟩ | ⟨_, hs⟩
    · exact x.not_fz.elim
    · rcases sl hf with ⟨_, rfl⟩ | ⟨_, hf⟩
      · exact y.not_fz.elim
      · exact S.dS j k e f b hs hf x y
  · rcases sl hs with ⟨_, rfl⟩ | ⟨_, hs⟩
    · exact x.not_fz
    · exact S.dX j e f b hs hf x y
/-- the head of the temporaries is stored at a slot; no other temporary looks at a slot -/
theorem Sta.store {i : Nat} {r : AV} {v : V} (S : Sta K G ρ [(r, v)] σ H) (nb : ∀ j, r ≠ .br j) (li : i < ρ.length) : Sta K G (ρ.set i (some r)) [] (σ.set i (some v)) H := by
  have lσ : i < σ.length := by rw [← S.len]; exact li
  have sl : ∀ {j : Nat} {e : AV × V}, SlAt (ρ.set i (some r)) (σ.set i (some v)) j e → (j = i ∧ e = (r, v)) ∨ (j ≠ i ∧ SlAt ρ σ j e) := fun {j e} q => by
    by_cases z : j = i
    · subst z
      obtain ⟨e1, e2⟩ := q.set_eq
      obtain ⟨e3, e4⟩ := e
      cases e1
      cases e2
      exact .inl ⟨rfl, rfl⟩
    · exact .inr ⟨z, q.set_ne z⟩
  have eq : ∀ b, Owns (ρ.set i (some r)) [] (σ.set i (some v)) b → Owns ρ [(r, v)] σ b := fun b z => by
    rcases z with ⟨j, e, hs, z⟩ | ⟨e, he, _⟩
    · rcases sl hs with ⟨_, rfl⟩ | ⟨_, hs⟩
      · exact .inr ⟨_, List.mem_cons_self, z⟩
      · exact .inl ⟨j, e, hs, z⟩
    · cases he
  refine S.gen (by rw [List.length_set, List.length_set]; exact S.len) (fun b o _ _ e => e) S.sk (fun b z nb => absurd (eq b z) nb) (fun b u nb e z => nb (.inl (eq b z))) (fun sm j q e => ?_) (fun sm e he => by cases he) (fun j k e f b hs hf x y => ?_) (fun j e f b hs hf x y => by cases hf) .nil (fun e he => by cases he)
  · by_cases z : j = i
    · subst z
      rw [List.getElem?_set_self li] at e
      cases e
      refine ⟨_, List.getElem?_set_self lσ, ?_⟩
      have t := S.tmp _ List.mem_cons_self
      cases r with
      | fz p => exact Rep.same sm t
      | ow p =>
        obtain ⟨b, e, o⟩ := t
        exact ⟨b, e, o.same sm fun o e => e⟩
      | br j => exact absurd rfl (nb j)
    · rw [List.getElem?_set_ne (Ne.symm z)] at e
      obtain ⟨u, e1, e2⟩ := S.slot j q e
      refine ⟨u, by rw [List.getElem?_set_ne (Ne.symm z)]; exact e1, ?_⟩
      cases q with
      | fz p => exact Rep.same sm e2
      | ow p =>
        obtain ⟨b, rfl, o⟩ := e2
        exact ⟨b, rfl, o.same sm fun o e => e⟩
      | br j => exact e2
  · rcases sl hs with ⟨z1, rfl⟩ | ⟨z1, hs⟩
    · rcases sl hf with ⟨z2, rfl⟩ | ⟨z2, hf⟩
      · rw [z1, z2]
      · exact (S.dX k f (r, v) b hf List.mem_cons_self y x).elim
    · rcases sl hf with ⟨z2, rfl⟩ | ⟨z2, hf⟩
      · exact (S.dX j e (r, v) b hs List.mem_cons_self x y).elim
      · exact S.dS j k e f b hs hf x y
/-- what a slot holds alone is changed -/
theorem Sta.mut {i : Nat} {p p' : PV} {a : Addr} {o : HO} (S : Sta K G ρ ts σ H) (h : ρ[i]? = some (some (.ow p))) (hv : σ[i]? = some (some (.ref a)))
    (hx : Obj1 K G.sa (msk (OA G ρ ts σ) H) (upd H a o) a p') : Sta K G (ρ.set i (some (.ow p'))) ts σ (upd H a o) := by
  have eσ : σ.set i (some (V.ref a)) = σ := set_self_get hv
  have li : i < ρ.length := (List.getElem?_eq_some_iff.mp h).1
  have oa : Owns ρ ts σ a := .inl ⟨i, (.ow p, .ref a), ⟨h, hv⟩, .ow⟩
  have h0a : G.H0 a = none := S.new a oa
  have sk : saOk G.sa (upd H a o) := fun l s e => by
    obtain ⟨ne, ns, x, k, h1, h2, h3, h4⟩ := S.sk l s e
    have n1 : s ≠ a := fun z => S.od a (z ▸ S.so l s e) h0a
    have n2 : l ≠ a := fun z => S.lo l s e (z ▸ h0a)
    exact ⟨ne, ns, x, k, by rw [upd_ne n2]; exact h1, h2, by rw [upd_ne n1]; exact h3, h4⟩
  have sl : ∀ {j : Nat} {e : AV × V}, SlAt (ρ.set i (some (.ow p'))) σ j e → (j = i ∧ e = (.ow p', .ref a)) ∨ (j ≠ i ∧ SlAt ρ σ j e) := fun {j e} q => by
    by_cases z : j = i
    · subst z
      rw [← eσ] at q
      obtain ⟨e1, e2⟩ := q.set_eq
      obtain ⟨e3, e4⟩ := e
      cases e1
      cases e2
      exact .inl ⟨rfl, rfl⟩
    · rw [← eσ] at q
      exact .inr ⟨z, q.set_ne z⟩
  have eq : ∀ b, Owns (ρ.set i (some (.ow p'))) ts σ b → Owns ρ ts σ b := fun b z => by
    rcases z with ⟨j, e, hs, z⟩ | z
    · rcases sl hs with ⟨_, rfl⟩ | ⟨_, hs⟩
      · obtain ⟨_, e⟩ := z
        cases e
        exact oa
      · exact .inl ⟨j, e, hs, z⟩
    · exact .inr z
  refine S.gen (by rw [List.length_set]; exact S.len) (fun b u _ n e => ?_) sk (fun b z nb => absurd (eq b z) nb) (fun b u nb e z => nb (.inl (eq b z))) (fun sm j r e => ?_) (fun sm e he => ?_) (fun j k e f b hs hf x y => ?_) (fun j e f b hs hf x y => ?_) S.dT (fun e he j ej => by
    by_cases z : j = i
    · subst z
      exact ⟨_, List.getElem?_set_self li⟩
    · rw [List.getElem?_set_ne (Ne.symm z)]
      exact S.brn e he j ej)
  · rw [upd_ne (show b ≠ a from fun z => n (z ▸ oa))]
    exact e
  · by_cases z : j = i
    · subst z
      rw [List.getElem?_set_self li] at e
      cases e
      exact ⟨_, hv, a, rfl, hx.same sm fun o e => e⟩
    · rw [List.getElem?_set_ne (Ne.symm z)] at e
      obtain ⟨v, e1, e2⟩ := S.slot j r e
      refine ⟨v, e1, ?_⟩
      cases r with
      | fz p => exact Rep.same sm e2
      | ow q =>
        obtain ⟨b, rfl, ob⟩ := e2
        have nb : b ≠ a := fun w => z (S.dS j i (.ow q, .ref b) (.ow p, .ref a) a ⟨e, e1⟩ ⟨h, hv⟩ (w ▸ .ow) .ow)
        exact ⟨b, rfl, ob.same sm fun o e => by rw [upd_ne nb]; exact e⟩
      | br j => exact e2
  · have t := S.tmp e he
    obtain ⟨r, v⟩ := e
    cases r with
    | fz p => exact Rep.same sm t
    | ow q =>
      obtain ⟨b, e, ob⟩ := t
      obtain rfl : v = .ref b := e
      have nb : b ≠ a := fun w => S.dX i (.ow p, .ref a) _ a ⟨h, hv⟩ he .ow (w ▸ .ow)
      exact ⟨b, rfl, ob.same sm fun o e => by rw [upd_ne nb]; exact e⟩
    | br j => exact t
  · rcases sl hs with ⟨z1, rfl⟩ | ⟨z1, hs⟩
    · rcases sl hf with ⟨z2, rfl⟩ | ⟨z2, hf⟩
      · rw [z1, z2]
      · obtain ⟨_, e⟩ := x
        cases e
        exact (z2 (S.dS k i f (.ow p, .ref a) a hf ⟨h, hv⟩ y .ow)).elim
    · rcases sl hf with ⟨z2, rfl⟩ | ⟨z2, hf⟩
      · obtain ⟨_, e⟩ := y
        cases e
        exact (z1 (S.dS j i e (.ow p, .ref a) a hs ⟨h, hv⟩ x .ow)).elim
      · exact S.dS j k e f b hs hf x y
  · rcases sl hs with ⟨z1, rfl⟩ | ⟨z1, hs⟩
    · obtain ⟨_, e⟩ := x
      cases e
      exact S.dX i (.ow p, .ref a) f a ⟨h, hv⟩ hf .ow y
    · exact S.dX j e f b hs hf x y
/-- what comes back of a call: frozen, or new and held -/
def Retn (K : PySem.W.Frag) (G : Gh) (r : AV) (v : V) (H' : Hp) : Prop := Fra G.sa G.H0 H' ∧ saOk G.sa H' ∧ match r with
  | .fz p => Rep K G.sa (msk G.O H') p v
  | .ow p => ∃ a, v = .ref a ∧ G.H0 a = none ∧ Obj1 K G.sa (msk (fun b => b = a ∨ G.O b) H') H' a p
  | .br _ => False
/-- behind a call of a def that was given frozen values -/
theorem Sta.ret {r : AV} {v : V} (S : Sta K G ρ ts σ H) (h : Retn K ⟨G.sa, H, OA G ρ ts σ⟩ r v H') : Sta K G ρ ((r, v) :: ts) σ H' := by
  obtain ⟨fr, sk, h⟩ := h
  have fr : Fra G.sa H H' := fr
  have nst : ∀ {a : Addr}, Owns ρ ts σ a → ∀ l s, G.sa = some (l, s) → a ≠ s := fun {a} ha l s e z => S.od a (z ▸ S.so l s e) (S.new a ha)
  have kp : ∀ {a : Addr} {o : HO}, Owns ρ ts σ a → H a = some o → H' a = some o := fun {a o} ha e => fr a o (nst ha) e
  cases r with
  | br j => exact h.elim
  | fz p =>
    have h : Rep K G.sa (msk (OA G ρ ts σ) H') p v := h
    refine Sta.push (S.gen S.len (fun b o n _ e => fr b o n e) sk (fun a h n => absurd h n) (fun a o n _ z => n (.inl z)) (fun sm i r e => ?_) (fun sm e he => ?_) S.dS S.dX S.dT S.brn) h
    · obtain ⟨u, e1, e2⟩ := S.slot i r e
      refine ⟨u, e1, ?_⟩
      cases r with
      | fz p => exact Rep.same sm e2
      | ow p =>
        obtain ⟨b, rfl, ob⟩ := e2
        exact ⟨b, rfl, ob.same sm fun o q => kp (.inl ⟨i, (.ow p, .ref b), ⟨e, e1⟩, .ow⟩) q⟩
      | br j => exact e2
    · have t := S.tmp e he
      obtain ⟨r, u⟩ := e
      cases r with
      | fz p => exact Rep.same sm t
      | ow p =>
        obtain ⟨b, e, ob⟩ := t
        obtain rfl : u = .ref b := e
        exact ⟨b, rfl, ob.same sm fun o q => kp (.inr ⟨_, he, .ow⟩) q⟩
      | br j => exact t
  | ow p =>
    obtain ⟨a, rfl, ha, ob⟩ := h
    have ha : H a = none := ha
    have na := Rep.ow_same S ha
    have ob : Obj1 K G.sa (msk (fun b => b = a ∨ OA G ρ ts σ b) H') H' a p := ob
    have eq : ∀ b, Owns ρ ((.ow p, .ref a) :: ts) σ b → b = a ∨ Owns ρ ts σ b := fun b z => by
      rcases z with z | ⟨e, he, z⟩
      · exact .inr (.inl z)
      · rcases List.mem_cons.mp he with rfl | he
        · obtain ⟨_, e⟩ := z
          cases e
          exact .inl rfl
        · exact .inr (.inr ⟨e, he, z⟩)
    have ne : ∀ e : AV × V, OwAt e a → (∃ i, SlAt ρ σ i e) ∨ e ∈ ts → False := fun e h m => na (.inl (m.elim (fun ⟨i, m⟩ => .inl ⟨i, e, m, h⟩) fun m => .inr ⟨e, m, h⟩))
    have smo : Same (msk (fun b => b = a ∨ OA G ρ ts σ b) H') (msk (OA G ρ ((.ow p, .ref a) :: ts) σ) H') := msk_same fun b o n e => by
      refine ⟨fun z => n ?_, e⟩
      rcases z with z | z
      · exact (eq b z).imp id fun z => .inl z
      · exact .inr (.inr z)
    refine S.gen S.len (fun b o n _ e => fr b o n e) sk (fun b z nb => ?_) (fun b u nb e z => ?_) (fun sm i r e => ?_) (fun sm e he => ?_) S.dS (fun i e f b hs hf x y => ?_) (List.pairwise_cons.mpr ⟨fun f hf b x y => ?_, S.dT⟩) (fun e he j ei => by
      rcases List.mem_cons.mp he with rfl | he
      · cases ei
      · exact S.brn e he j ei)
    · rcases eq b z with rfl | z
      · exact ha
      · exact absurd z nb
    · rcases eq b z with rfl | z
      · rw [ha] at e
        cases e
      · exact nb (.inl z)
    · obtain ⟨u, e1, e2⟩ := S.slot i r e
      refine ⟨u, e1, ?_⟩
      cases r with
      | fz p => exact Rep.same sm e2
      | ow p =>
        obtain ⟨b, rfl, ob⟩ := e2
        exact ⟨b, rfl, ob.same sm fun o q => kp (.inl ⟨i, (.ow p, .ref b), ⟨e, e1⟩, .ow⟩) q⟩
      | br j => exact e2
    · rcases List.mem_cons.mp he with rfl | he
      · exact ⟨a, rfl, ob.same smo fun o e => e⟩
      · have t := S.tmp e he
        obtain ⟨r, u⟩ := e
        cases r with
        | fz p => exact Rep.same sm t
        | ow p =>
          obtain ⟨b, e, ob⟩ := t
          obtain rfl : u = .ref b := e
          exact ⟨b, rfl, ob.same sm fun o q => kp (.inr ⟨_, he, .ow⟩) q⟩
        | br j => exact t
    · rcases List.mem_cons.mp hf with rfl | hf
      · obtain ⟨_, e2⟩ := y
        cases e2
        exact ne e x (.inl ⟨i, hs⟩)
      · exact S.dX i e f b hs hf x y
    · obtain ⟨_, e2⟩ := x
      cases e2
      exact ne f y (.inr hf)
/-- what a def was given, all frozen: its ghost -/
theorem Sta.argsRep : ∀ {ps : List PV} {vs : List V} {ts : Ts}, vs.length = ps.length → Sta K G ρ (((ps.map AV.fz).zip vs) ++ ts) σ H → Reps K G.sa (msk (OA G ρ ts σ) H) ps vs
  | [], [], _, _, _ => Reps.nil
  | p :: ps, v :: vs, ts, hl, S => by
    have hl : vs.length = ps.length := Nat.succ.inj hl
    have t := S.tmp _ List.mem_cons_self
    have eq : ∀ {qs : List PV} {us : List V} {b : Addr}, Owns ρ (((qs.map AV.fz).zip us) ++ ts) σ b → Owns ρ ts σ b := fun {qs us b} z => by
      rcases z with z | ⟨e, he, z⟩
      · exact .inl z
      · rcases List.mem_append.mp he with he | he
        · obtain ⟨x, y⟩ := e
          have := (List.of_mem_zip he).1
          obtain ⟨q, _, rfl⟩ := List.mem_map.mp this
          exact z.not_fz.elim
        · exact .inr ⟨e, he, z⟩
    refine Reps.cons (Rep.same (msk_same fun a o n e => ⟨fun z => n (z.imp (fun z => ?_) id), e⟩) t) (Sta.argsRep hl S.pop)
    rcases z with z | ⟨e, he, z⟩
    · exact .inl z
    · exact .inr ⟨e, List.mem_cons_of_mem _ (List.mem_append_right _ he), z⟩
end SyP
set_option autoImplicit false
/-! Pure words 3: the judgements, expressions. -/
namespace SyP
open PySem PySem.Spec PyProof.Rows L2 Sy
/-- an exception as a tree: its class, its fields -/
structure PX where
  nm : Str
  fs : List (Str × PV)
/-- what a text of the program leans on -/
structure CC where
  K : PySem.W.Frag
  mg : Str → Option Value
  E0 : XK
abbrev PQ := AV → En → Prop
abbrev WE := En → PQ → (PX → Prop) → Prop
abbrev WT := En → (Bool → En → Prop) → (PX → Prop) → Prop
abbrev WA := En → (List AV → En → Prop) → (PX → Prop) → Prop
def ExR (C : CC) (G : Gh) (e : PX) (cls : Value) (d : Option Addr) (H' : Hp) : Prop :=
  Fra G.sa G.H0 H' ∧ saOk G.sa H' ∧ ∃ A dx vs, C.mg e.nm = some (.ref A) ∧ cls = .ref A ∧ d = some dx ∧ H' dx = some (.xd ((e.fs.map (·.1)).zip vs)) ∧ Reps C.K G.sa (msk G.O H') (e.fs.map (·.2)) vs
def EEx (C : CC) (G : Gh) (E : PX → Prop) : Prop := ∀ e, E e → ∀ cls d H', ExR C G e cls d H' → C.E0 cls d H'
def tP (C : CC) (w : WE) : TE := fun σ H Q => ∃ G ρ ts Q' E', Sta C.K G ρ ts σ H ∧ w ρ Q' E' ∧ (∀ r ρ', Q' r ρ' → ∀ v H', Sta C.K G ρ' ((r, v) :: ts) σ H' → Q v H') ∧ EEx C G E'
def tPT (C : CC) (w : WT) : TT := fun σ H Q => ∃ G ρ ts Q' E', Sta C.K G ρ ts σ H ∧ w ρ Q' E' ∧ (∀ b ρ', Q' b ρ' → ∀ H', Sta C.K G ρ' ts σ H' → Q b H') ∧ EEx C G E'
def tPA (C : CC) (w : WA) : TA := fun σ H Q => ∃ G ρ ts Q' E', Sta C.K G ρ ts σ H ∧ w ρ Q' E' ∧ (∀ rs ρ', Q' rs ρ' → ∀ vs H', vs.length = rs.length → Sta C.K G ρ' (rs.zip vs ++ ts) σ H' → Q vs H') ∧ EEx C G E'
theorem PE.imp {X : Cx} {e : Expr} {t t' : TE} (h : PE X e t) (i : ∀ σ H Q, t' σ H Q → t σ H Q) : PE X e t' := ⟨fun pins s σ H Q I q => h.run pins s σ H Q I (i σ H Q q)⟩
theorem PT.imp {X : Cx} {e : Expr} {t t' : TT} (h : PT X e t) (i : ∀ σ H Q, t' σ H Q → t σ H Q) : PT X e t' := ⟨fun pins s σ H Q I q => h.run pins s σ H Q I (i σ H Q q)⟩
theorem PA.imp {X : Cx} {e : List Expr} {t t' : TA} (h : PA X e t) (i : ∀ σ H Q, t' σ H Q → t σ H Q) : PA X e t' := ⟨fun pos pins s σ H Q I q => h.run pos pins s σ H Q I (i σ H Q q)⟩
/-! ### what one sees of a value -/
def look (ρ : En) : AV → Option PV
  | .fz p => some p
  | .ow p => some p
  | .br i => match ρ[i]? with
    | some (some (.fz p)) => some p
    | some (some (.ow p)) => some p
    | _ => none
/-- a value whose own object may be held -/
def Top (K : PySem.W.Frag) (sa : SA) (Hm H : Hp) : PV → V → Prop
  | .lst l, v => ∃ a vs, v = .ref a ∧ H a = some (.lst vs) ∧ Reps K sa Hm l vs
  | .dic ks l, v => ∃ a vs, v = .ref a ∧ HD H a ks vs ∧ Reps K sa Hm l vs
  | .tup l, v => ∃ a vs, v = .ref a ∧ SqT K H a vs ∧ Reps K sa Hm l vs
  | p, v => Rep K sa Hm p v
variable {K : PySem.W.Frag} {sa : SA} {H H' : Hp} {G : Gh} {ρ ρ' : En} {ts ts' : Ts} {σ σ' : L2.St} {C : CC}
theorem Rep.top {P : Addr → Prop} : ∀ {p : PV} {v : V}, Rep K sa (msk P H) p v → Top K sa (msk P H) H p v
  | .non, _, h => h
  | .bl _, _, h => h
  | .int _, _, h => h
  | .str _, _, h => h
  | .strm, _, h => h
  | .tup l, _, h => by unfold Rep at h; obtain ⟨a, vs, e, h1, h2⟩ := h; exact ⟨a, vs, e, SqT.same msk_top h1, h2⟩
  | .lst l, _, h => by unfold Rep at h; obtain ⟨a, vs, e, h1, h2⟩ := h; exact ⟨a, vs, e, msk_top _ _ h1, h2⟩
  | .dic ks l, _, h => by unfold Rep at h; obtain ⟨a, vs, e, h1, h2⟩ := h; exact ⟨a, vs, e, HD.same msk_top h1, h2⟩
theorem Obj1.top {Hm : Hp} {a : Addr} : ∀ {p : PV}, Obj1 K sa Hm H a p → Top K sa Hm H p (.ref a)
  | .lst _, ⟨vs, h, r⟩ => ⟨a, vs, rfl, h, r⟩
  | .dic _ _, .inl ⟨kvs, h, e, r⟩ => ⟨a, _, rfl, .inl ⟨kvs, .inl h, e, rfl⟩, r⟩
  | .dic _ _, .inr ⟨kvs, h, e, r⟩ => ⟨a, _, rfl, .inr ⟨kvs, .inl h, e, rfl⟩, r⟩
theorem Sta.top {r : AV} {v : V} {p : PV} (S : Sta K G ρ ts σ H) (he : (r, v) ∈ ts) (hl : look ρ r = some p) : Top K G.sa (msk (OA G ρ ts σ) H) H p v := by
  have t := S.tmp _ he
  cases r with
  | fz q => cases hl; exact Rep.top t
  | ow q =>
    cases hl
    obtain ⟨a, e, o⟩ := t
    obtain rfl : v = .ref a := e
    exact o.top
  | br i =>
    have t : σ[i]? = some (some v) := t
    obtain ⟨r, hr⟩ := S.brn _ he i rfl
    obtain ⟨u, e1, e2⟩ := S.slot i r hr
    rw [t] at e1
    cases e1
    unfold look at hl
    simp only [hr] at hl
    cases r with
    | fz q => cases hl; exact Rep.top e2
    | ow q =>
      cases hl
      obtain ⟨a, rfl, o⟩ := e2
      exact o.top
    | br j => cases hl
theorem Top.int {Hm : Hp} {i : Int} {v : V} (h : Top K sa Hm H (.int i) v) : v = .int i := by simpa only [Top, Rep] using h
theorem Top.str {Hm : Hp} {i : Str} {v : V} (h : Top K sa Hm H (.str i) v) : v = .str i := by simpa only [Top, Rep] using h
theorem Top.bl {Hm : Hp} {i : Bool} {v : V} (h : Top K sa Hm H (.bl i) v) : v = .bl i := by simpa only [Top, Rep] using h
theorem Top.non {Hm : Hp} {v : V} (h : Top K sa Hm H .non v) : v = .non := by simpa only [Top, Rep] using h
/-- an item seen through temporaries, when they are gone -/
theorem owns_pop {e : AV × V} {a : Addr} (h : Owns ρ ts σ a) : Owns ρ (e :: ts) σ a := h.imp id fun ⟨f, hf, z⟩ => ⟨f, List.mem_cons_of_mem _ hf, z⟩
theorem oa_pop {e : AV × V} {a : Addr} (h : OA G ρ ts σ a) : OA G ρ (e :: ts) σ a := h.imp owns_pop id
theorem Rep.popped {e : AV × V} {p : PV} {v : V} (h : Rep K sa (msk (OA G ρ (e :: ts) σ) H) p v) : Rep K sa (msk (OA G ρ ts σ) H) p v := Rep.same (msk_same fun _ _ n q => ⟨fun z => n (oa_pop z), q⟩) h
theorem Reps.popped {e : AV × V} {p : List PV} {v : List V} (h : Reps K sa (msk (OA G ρ (e :: ts) σ) H) p v) : Reps K sa (msk (OA G ρ ts σ) H) p v := Reps.same (msk_same fun _ _ n q => ⟨fun z => n (oa_pop z), q⟩) h
theorem Reps.grown {P : Addr → Prop} {o : HO} {a : Addr} {p : List PV} {v : List V} (n : H a = none) (h : Reps K sa (msk P H) p v) : Reps K sa (msk P (upd H a o)) p v := Reps.same (msk_same fun _ _ n' q => ⟨n', same_new n _ _ q⟩) h
/-- a new frozen tuple of what stands frozen -/
theorem Sta.newTup {a : Addr} {vs : List V} {ps : List PV} (S : Sta K G ρ ts σ H) (n : H a = none) (h : Reps K G.sa (msk (OA G ρ ts σ) H) ps vs) : Sta K G ρ ((.fz (.tup ps), .ref a) :: ts) σ (upd H a (.tup vs)) := by
  refine S.newF n ?_
  unfold Rep
  exact ⟨a, vs, rfl, .inl (.inl (by rw [msk_of (Rep.ow_same S n), upd_same])), Reps.grown n h⟩
theorem Sta.newLst {a : Addr} {vs : List V} {ps : List PV} (S : Sta K G ρ ts σ H) (n : H a = none) (h : Reps K G.sa (msk (OA G ρ ts σ) H) ps vs) : Sta K G ρ ((.ow (.lst ps), .ref a) :: ts) σ (upd H a (.lst vs)) :=
  S.newO n ⟨vs, upd_same, h⟩
/-! ### letting go -/
/-- a value as one that is stored: what is looked at is let go -/
def keepA (ρ : En) : AV → Option (AV × En)
  | .fz p => some (.fz p, ρ)
  | .ow p => some (.ow p, ρ)
  | .br i => match ρ[i]? with
    | some (some (.fz p)) => some (.fz p, ρ)
    | some (some (.ow p)) => some (.fz p, ρ.set i (some (.fz p)))
    | _ => none
/-- .. and frozen -/
def fz1 (ρ : En) : AV → Option (PV × En)
  | .fz p => some (p, ρ)
  | .ow p => some (p, ρ)
  | .br i => match ρ[i]? with
    | some (some (.fz p)) => some (p, ρ)
    | some (some (.ow p)) => some (p, ρ.set i (some (.fz p)))
    | _ => none
theorem Sta.brFz {i : Nat} {v : V} {p : PV} (S : Sta K G ρ ((.br i, v) :: ts) σ H) (h : ρ[i]? = some (some (.fz p))) : Sta K G ρ ((.fz p, v) :: ts) σ H := by
  have t : σ[i]? = some (some v) := S.tmp _ List.mem_cons_self
  obtain ⟨u, e1, e2⟩ := S.slot i _ h
  rw [t] at e1
  cases e1
  exact S.pop.push (Rep.popped e2)
theorem Sta.fz1 {r : AV} {v : V} {p : PV} (S : Sta K G ρ ((r, v) :: ts) σ H) (h : fz1 ρ r = some (p, ρ')) : Sta K G ρ' ((.fz p, v) :: ts) σ H := by
  cases r with
  | fz q => cases h; exact S
  | ow q => cases h; exact S.frz
  | br i =>
    simp only [SyP.fz1] at h
    split at h
    · rename_i q e
      cases h
      exact S.brFz e
    · rename_i q e
      cases h
      have li := (List.getElem?_eq_some_iff.mp e).1
      exact (S.frzSlot e).brFz (List.getElem?_set_self li)
    · cases h
theorem Sta.keepA {r r' : AV} {v : V} (S : Sta K G ρ ((r, v) :: ts) σ H) (h : keepA ρ r = some (r', ρ')) : Sta K G ρ' ((r', v) :: ts) σ H := by
  cases r with
  | fz q => cases h; exact S
  | ow q => cases h; exact S
  | br i =>
    simp only [SyP.keepA] at h
    split at h
    · rename_i q e
      cases h
      exact S.brFz e
    · rename_i q e
      cases h
      have li := (List.getElem?_eq_some_iff.mp e).1
      exact (S.frzSlot e).brFz (List.getElem?_set_self li)
    · cases h
/-- all of a row, from the left -/
def fzAll (ρ : En) : List AV → Option (List PV × En)
  | [] => some ([], ρ)
  | r :: rs => match fz1 ρ r with
    | some (p, ρ1) => match fzAll ρ1 rs with
      | some (ps, ρ2) => some (p :: ps, ρ2)
      | none => none
    | none => none
theorem Sta.fzAll : ∀ {rs : List AV} {vs : List V} {ts : Ts} {ρ : En} {ps : List PV}, vs.length = rs.length → Sta K G ρ (rs.zip vs ++ ts) σ H → fzAll ρ rs = some (ps, ρ') → ps.length = vs.length ∧ Sta K G ρ' ((ps.map AV.fz).zip vs ++ ts) σ H
  | [], [], _, _, _, _, S, h => by cases h; exact ⟨rfl, S⟩
  | r :: rs, v :: vs, ts, ρ, ps, hl, S, h => by
    unfold SyP.fzAll at h
    split at h
    · rename_i p ρ1 e1
      split at h
      · rename_i qs ρ2 e2
        cases h
        have S1 : Sta K G ρ1 ((.fz p, v) :: (rs.zip vs ++ ts)) σ H := Sta.fz1 S e1
        have S2 : Sta K G ρ1 (rs.zip vs ++ ((.fz p, v) :: ts)) σ H := S1.perm List.perm_middle.symm
        obtain ⟨h1, h2⟩ := Sta.fzAll (Nat.succ.inj hl) S2 e2
        exact ⟨by rw [List.length_cons, List.length_cons, h1], h2.perm List.perm_middle⟩
      · cases h
    · cases h
theorem Sta.dropN : ∀ {us ts : Ts}, Sta K G ρ (us ++ ts) σ H → Sta K G ρ ts σ H
  | [], _, S => S
  | _ :: us, _, S => Sta.dropN (us := us) S.pop
/-! ### names and constants -/
variable {X : Cx} {a b c : Expr} {pos : Pos} {wa wb wc : WE}
def QE (X : Cx) (C : CC) (e : Expr) (w : WE) : Prop := PE X e (tP C w)
def QT (X : Cx) (C : CC) (e : Expr) (w : WT) : Prop := PT X e (tPT C w)
def QA (X : Cx) (C : CC) (e : List Expr) (w : WA) : Prop := PA X e (tPA C w)
def wVar (i : Nat) : WE := fun ρ Q _ => match ρ[i]? with
  | some (some (.fz p)) => Q (.fz p) ρ
  | some (some (.ow _)) => Q (.br i) ρ
  | _ => False
theorem qe_var {i : Nat} {x : Str} (h : PE X (.Name x pos) (tVar i)) : QE X C (.Name x pos) (wVar i) := by
  refine PE.imp h fun σ H Q ⟨G, ρ, ts, Q', E', S, w, q, _⟩ => ?_
  unfold wVar at w
  split at w
  · rename_i p e
    obtain ⟨v, e1, e2⟩ := S.slot i _ e
    exact ⟨v, e1, q _ _ w _ _ (S.push e2)⟩
  · rename_i p e
    obtain ⟨v, e1, e2⟩ := S.slot i _ e
    exact ⟨v, e1, q _ _ w _ _ (S.pushBr e1 ⟨_, e⟩)⟩
  · exact w.elim
def wC (p : PV) : WE := fun ρ Q _ => Q (.fz p) ρ
theorem qe_const {e : Expr} {v : V} {p : PV} (h : PE X e (tC v)) (s : Sc p v) : QE X C e (wC p) :=
  PE.imp h fun σ H Q ⟨G, ρ, ts, Q', E', S, w, q, _⟩ => q _ _ w _ _ (S.pushSc s)
theorem qe_int {i j} : QE X C (.Constant (.int i) j pos) (wC (.int i)) := qe_const pe_int rfl
theorem qe_bl {i j} : QE X C (.Constant (.bool i) j pos) (wC (.bl i)) := qe_const pe_bl rfl
theorem qe_non {j} : QE X C (.Constant .none j pos) (wC .non) := qe_const pe_non rfl
theorem qe_str {i j} : QE X C (.Constant (.str i) j pos) (wC (.str i)) := qe_const pe_str rfl
/-- a constant of the module -/
theorem qe_glob {x : Str} {v : V} {u : Value} {p : PV} (hg : Gl X x) (hm : X.mg x = some u) (r : RelV v u) (hr : ∀ H, Rep C.K none H p v) (hd : (x == ("__debug__" : Str)) = false := by decide) (hs : ∀ sa H, Rep C.K none H p v → Rep C.K sa H p v) : QE X C (.Name x pos) (wC p) :=
  PE.imp (pe_glob hg hm r hd) fun σ H Q ⟨G, ρ, ts, Q', E', S, w, q, _⟩ => q _ _ w _ _ (S.push (hs _ _ (hr _)))
theorem qe_globSc {x : Str} {v : V} {u : Value} {p : PV} (hg : Gl X x) (hm : X.mg x = some u) (r : RelV v u) (s : Sc p v) (hd : (x == ("__debug__" : Str)) = false := by decide) : QE X C (.Name x pos) (wC p) := qe_const (pe_glob hg hm r hd) s
/-! ### two places -/
abbrev W2 := En → AV → AV → PQ → Prop
def wOp (w2 : W2) (wa wb : WE) : WE := fun ρ Q E => wa ρ (fun ra ρ1 => wb ρ1 (fun rb ρ2 => w2 ρ2 ra rb Q) E) E
def Op2 (C : CC) (w2 : W2) (r : R2) : Prop := ∀ (G : Gh) (ρ : En) (ts : Ts) (σ : L2.St) (H : Hp) (x y : V) (ra rb : AV) (Q' : PQ) (Q : VK), Sta C.K G ρ ((rb, y) :: (ra, x) :: ts) σ H → w2 ρ ra rb Q' →
  (∀ res ρ', Q' res ρ' → ∀ v H', Sta C.K G ρ' ((res, v) :: ts) σ H' → Q v H') → r x y H Q
theorem tOp_of {w2 : W2} {r : R2} (h2 : Op2 C w2 r) {σ : L2.St} {H : Hp} {Q : VK} (h : tP C (wOp w2 wa wb) σ H Q) : tOp r (tP C wa) (tP C wb) σ H Q := by
  obtain ⟨G, ρ, ts, Q', E', S, w, q, ee⟩ := h
  exact ⟨G, ρ, ts, _, E', S, w, fun ra ρ1 w1 x H1 S1 => ⟨G, ρ1, (ra, x) :: ts, _, E', S1, w1, fun rb ρ2 w3 y H2 S2 => h2 G ρ2 ts σ H2 x y ra rb Q' Q S2 w3 q, ee⟩, ee⟩
theorem qe_op {op : Operator} {w2 : W2} {r : R2} (h2 : Op2 C w2 r) (ho : OpR X (binaryOp op) r) (ha : QE X C a wa) (hb : QE X C b wb) : QE X C (.BinOp a op b pos) (wOp w2 wa wb) :=
  PE.imp (pe_op ho ha hb) fun _ _ _ h => tOp_of h2 h
theorem qe_cmp {op : CmpOp} {w2 : W2} {r : R2} (h2 : Op2 C w2 r) (ho : OpR X (compareOp op) r) (ha : QE X C a wa) (hb : QE X C b wb) (hm : behindInMarks op b = false) : QE X C (.Compare a [op] [b] pos) (wOp w2 wa wb) :=
  PE.imp (pe_cmpR ho ha hb hm) fun _ _ _ h => tOp_of h2 h
/-- a value that must be a bool, as a test -/
def wB (w : WE) : WT := fun ρ Q E => w ρ (fun r ρ' => ∃ b, look ρ' r = some (.bl b) ∧ Q b ρ') E
theorem qt_cmp {op : CmpOp} {w2 : W2} {r : R2} (h2 : Op2 C w2 r) (ho : OpR X (compareOp op) r) (ha : QE X C a wa) (hb : QE X C b wb) (hm : behindInMarks op b = false) : QT X C (.Compare a [op] [b] pos) (wB (wOp w2 wa wb)) :=
  PT.imp (pt_cmpR ho ha hb hm) fun σ H Q ⟨G, ρ, ts, Q', E', S, w, q, ee⟩ => by
    refine tOp_of h2 (Q := fun x H' => ∃ k, x = .bl k ∧ Q k H') ⟨G, ρ, ts, _, E', S, w, fun r ρ' ⟨b, e, w⟩ v H' S' => ?_, ee⟩
    exact ⟨b, (S'.top List.mem_cons_self e).bl, q _ _ w _ S'.pop⟩
theorem Op2.or {w2 w2' : W2} {r r' : R2} (h : Op2 C w2 r) (h' : Op2 C w2' r') : Op2 C (fun ρ ra rb Q => w2 ρ ra rb Q ∨ w2' ρ ra rb Q) (fun x y H Q => r x y H Q ∨ r' x y H Q) := fun G ρ ts σ H x y ra rb Q' Q S w q =>
  w.imp (fun w => h G ρ ts σ H x y ra rb Q' Q S w q) fun w => h' G ρ ts σ H x y ra rb Q' Q S w q
/-- two ints give a scalar -/
def wII (c : Int → Int → Prop) (g : Int → Int → PV) : W2 := fun ρ ra rb Q => ∃ i j, look ρ ra = some (.int i) ∧ look ρ rb = some (.int j) ∧ c i j ∧ Q (.fz (g i j)) ρ
theorem o2_I {c : Int → Int → Prop} {g : Int → Int → PV} {g' : Int → Int → V} (s : ∀ i j, Sc (g i j) (g' i j)) : Op2 C (wII c g) (rI c g') := fun G ρ ts σ H x y ra rb Q' Q S ⟨i, j, e1, e2, hc, w⟩ q =>
  ⟨i, j, (S.top (List.mem_cons_of_mem _ List.mem_cons_self) e1).int, (S.top List.mem_cons_self e2).int, hc, q _ _ w _ _ (S.pop.pop.pushSc (s i j))⟩
theorem o2_I0 {g : Int → Int → PV} {g' : Int → Int → V} (s : ∀ i j, Sc (g i j) (g' i j)) : Op2 C (wII (fun _ _ => True) g) (rI0 g') := fun G ρ ts σ H x y ra rb Q' Q S ⟨i, j, e1, e2, _, w⟩ q =>
  ⟨i, j, (S.top (List.mem_cons_of_mem _ List.mem_cons_self) e1).int, (S.top List.mem_cons_self e2).int, q _ _ w _ _ (S.pop.pop.pushSc (s i j))⟩
/-! + of ints, texts, tuples, lists -/
def wAdd : W2 := fun ρ ra rb Q => match look ρ ra, look ρ rb with
  | some (.int i), some (.int j) => Q (.fz (.int (i + j))) ρ
  | some (.str i), some (.str j) => i.length + j.length ≤ sizeLine ∧ Q (.fz (.str (i ++ j))) ρ
  | some (.tup l), some (.tup m) => l.length + m.length ≤ sizeLine ∧ Q (.fz (.tup (l ++ m))) ρ
  | some (.lst l), some (.lst m) => l.length + m.length ≤ sizeLine ∧ Q (.ow (.lst (l ++ m))) ρ
  | _, _ => False
def rAddStr : R2 := fun x y H Q => ∃ i j, x = .str i ∧ y = .str j ∧ i.length + j.length ≤ sizeLine ∧ Q (.str (i ++ j)) H
def rAdd (K : PySem.W.Frag) : R2 := fun x y H Q => rI0 (fun i j => .int (i + j)) x y H Q ∨ (rAddStr x y H Q ∨ (rCatA K x y H Q ∨ rCat x y H Q))
theorem op_addP : OpR X (binaryOp .Add) (rAdd X.K) := op_add.or (OpR.or (r := rAddStr) op_add_str (op_catA.or op_cat))
theorem o2_add : Op2 C wAdd (rAdd C.K) := fun G ρ ts σ H x y ra rb Q' Q S w q => by
  unfold wAdd at w
  split at w
  · rename_i i j e1 e2
    exact .inl ⟨i, j, (S.top (List.mem_cons_of_mem _ List.mem_cons_self) e1).int, (S.top List.mem_cons_self e2).int, q _ _ w _ _ (S.pop.pop.pushSc rfl)⟩
  · rename_i i j e1 e2
    exact .inr (.inl ⟨i, j, (S.top (List.mem_cons_of_mem _ List.mem_cons_self) e1).str, (S.top List.mem_cons_self e2).str, w.1, q _ _ w.2 _ _ (S.pop.pop.pushSc rfl)⟩)
  · rename_i l m e1 e2
    obtain ⟨a, xs, rfl, h1, r1⟩ := S.top (List.mem_cons_of_mem _ List.mem_cons_self) e1
    obtain ⟨b, ys, rfl, h2, r2⟩ := S.top List.mem_cons_self e2
    have l1 := r1.length
    have l2 := r2.length
    refine .inr (.inr (.inl ⟨a, b, xs, ys, rfl, rfl, h1, h2, by omega, fun e => ?_, fun _ e => ?_, fun _ _ p np => ?_⟩))
    · subst e
      have el : l = [] := by
        cases l
        · rfl
        · cases l1
      subst el
      refine q _ _ w.2 _ _ (S.pop.pop.push ?_)
      have t := (S.tmp _ List.mem_cons_self)
      cases rb with
      | fz p => cases e2; exact Rep.popped (Rep.popped t)
      | ow p =>
        cases e2
        obtain ⟨c, _, o⟩ := t
        exact o.elim
      | br k =>
        have t : σ[k]? = some (some (.ref b)) := t
        obtain ⟨r, hr⟩ := S.brn _ List.mem_cons_self k rfl
        obtain ⟨u, f1, f2⟩ := S.slot k r hr
        rw [t] at f1
        cases f1
        unfold look at e2
        simp only [hr] at e2
        cases r with
        | fz p => cases e2; exact Rep.popped (Rep.popped f2)
        | ow p =>
          cases e2
          obtain ⟨c, _, o⟩ := f2
          exact o.elim
        | br j => cases e2
    · subst e
      have el : m = [] := by
        cases m
        · rfl
        · cases l2
      subst el
      rw [List.append_nil] at w
      refine q _ _ w.2 _ _ (S.pop.pop.push ?_)
      have hm : (ra, V.ref a) ∈ (rb, V.ref b) :: (ra, V.ref a) :: ts := List.mem_cons_of_mem _ List.mem_cons_self
      have t := S.tmp _ hm
      cases ra with
      | fz p => cases e1; exact Rep.popped (Rep.popped t)
      | ow p =>
        cases e1
        obtain ⟨c, _, o⟩ := t
        exact o.elim
      | br k =>
        have t : σ[k]? = some (some (.ref a)) := t
        obtain ⟨r, hr⟩ := S.brn _ hm k rfl
        obtain ⟨u, f1, f2⟩ := S.slot k r hr
        rw [t] at f1
        cases f1
        unfold look at e1
        simp only [hr] at e1
        cases r with
        | fz p => cases e1; exact Rep.popped (Rep.popped f2)
        | ow p =>
          cases e1
          obtain ⟨c, _, o⟩ := f2
          exact o.elim
        | br j => cases e1
    · exact q _ _ w.2 _ _ (S.pop.pop.newTup np (Reps.append (Reps.popped (Reps.popped r1)) (Reps.popped (Reps.popped r2))))
  · rename_i l m e1 e2
    obtain ⟨a, xs, rfl, h1, r1⟩ := S.top (List.mem_cons_of_mem _ List.mem_cons_self) e1
    obtain ⟨b, ys, rfl, h2, r2⟩ := S.top List.mem_cons_self e2
    have l1 := r1.length
    have l2 := r2.length
    exact .inr (.inr (.inr ⟨a, b, xs, ys, rfl, rfl, h1, h2, by omega, fun p np => q _ _ w.2 _ _ (S.pop.pop.newLst np (Reps.append (Reps.popped (Reps.popped r1)) (Reps.popped (Reps.popped r2))))⟩))
  · exact w.elim
end SyP
set_option autoImplicit false
/-! Pure words 4: data compared, operators, tests, rows of arguments, displays. -/
namespace SyP
open PySem PySem.Spec PyProof.Rows L2 Sy
/-! ### data -/
mutual
/-- a tree as data -/
def pd : PV → PyData
  | .non => .none
  | .bl b => .bool b
  | .int i => .int i
  | .str x => .str x
  | .tup l => .tuple (pds l)
  | .lst l => .list (pds l)
  | .dic _ _ => .none
  | .strm => .none
def pds : List PV → List PyData
  | [] => []
  | p :: ps => pd p :: pds ps
end
theorem pds_map : ∀ l : List PV, pds l = l.map pd
  | [] => rfl
  | p :: ps => by unfold pds; rw [pds_map ps]; rfl
def eqp (p q : PV) : Bool := PyData.eqv (pd p) (pd q)
/-- data of at most that depth -/
def Fl : Nat → PV → Prop
  | _, .non => True
  | _, .bl _ => True
  | _, .int _ => True
  | _, .str x => PyData.strOk x = true
  | n + 1, .tup l => ∀ x ∈ l, Fl n x
  | n + 1, .lst l => ∀ x ∈ l, Fl n x
  | _, _ => False
theorem lay_all : ∀ {l : List PV}, (∀ x ∈ l, (pd x).canLay0 = true) → PyData.canLayAll0 (pds l) = true
  | [], _ => by unfold pds PyData.canLayAll0; rfl
  | p :: ps, h => by
    unfold pds PyData.canLayAll0
    rw [h p List.mem_cons_self, lay_all fun x hx => h x (List.mem_cons_of_mem _ hx)]
    rfl
theorem depth_all : ∀ {n : Nat} {l : List PV}, (∀ x ∈ l, (pd x).depth ≤ n) → PyData.depthAll (pds l) ≤ n
  | _, [], _ => by unfold pds PyData.depthAll; exact Nat.zero_le _
  | _, p :: ps, h => by
    unfold pds PyData.depthAll
    exact Nat.max_le.mpr ⟨h p List.mem_cons_self, depth_all fun x hx => h x (List.mem_cons_of_mem _ hx)⟩
theorem Fl.ok : ∀ {n : Nat} {p : PV}, Fl n p → (pd p).canLay0 = true ∧ (pd p).depth ≤ n
  | n, .non, _ => ⟨rfl, by simp [pd, PyData.depth]⟩
  | n, .bl _, _ => ⟨rfl, by simp [pd, PyData.depth]⟩
  | n, .int _, _ => ⟨rfl, by simp [pd, PyData.depth]⟩
  | n, .str x, h => ⟨by cases n <;> exact h, by simp [pd, PyData.depth]⟩
  | 0, .tup l, h => h.elim
  | n + 1, .tup l, h => by
    have h : ∀ x ∈ l, Fl n x := h
    refine ⟨?_, ?_⟩
    · unfold pd PyData.canLay0
      exact lay_all fun x hx => (Fl.ok (h x hx)).1
    · unfold pd PyData.depth
      have := depth_all (n := n) fun x hx => (Fl.ok (h x hx)).2
      omega
  | 0, .lst l, h => h.elim
  | n + 1, .lst l, h => by
    have h : ∀ x ∈ l, Fl n x := h
    refine ⟨?_, ?_⟩
    · unfold pd PyData.canLay0
      exact lay_all fun x hx => (Fl.ok (h x hx)).1
    · unfold pd PyData.depth
      have := depth_all (n := n) fun x hx => (Fl.ok (h x hx)).2
      omega
  | 0, .dic _ _, h => h.elim
  | _ + 1, .dic _ _, h => h.elim
  | 0, .strm, h => h.elim
  | _ + 1, .strm, h => h.elim
theorem Fl.shaped {n : Nat} {p : PV} (h : Fl n p) (hn : n ≤ 64) : SeqAt.shaped (pd p) = true := by
  obtain ⟨a, b⟩ := h.ok
  unfold SeqAt.shaped
  rw [a, decide_eq_true (by omega)]
  rfl
variable {K : PySem.W.Frag} {sa : SA} {H H' Hm : Hp} {G : Gh} {ρ ρ' : En} {ts ts' : Ts} {σ σ' : L2.St} {C : CC}
mutual
theorem Rep.dp : ∀ {n : Nat} {p : PV} {v : V}, Fl n p → Rep K sa H p v → Dp K H v (pd p)
  | _, .non, _, _, h => by unfold Rep at h; subst h; exact .non
  | _, .bl _, _, _, h => by unfold Rep at h; subst h; exact .bl _
  | _, .int _, _, _, h => by unfold Rep at h; subst h; exact .int _
  | _, .str _, _, _, h => by unfold Rep at h; subst h; exact .str _
  | 0, .tup _, _, f, _ => f.elim
  | n + 1, .tup l, _, f, h => by
    unfold Rep at h
    obtain ⟨a, vs, rfl, h1, h2⟩ := h
    exact .tup h1 (Reps.dp f h2)
  | 0, .lst _, _, f, _ => f.elim
  | n + 1, .lst l, _, f, h => by
    unfold Rep at h
    obtain ⟨a, vs, rfl, h1, h2⟩ := h
    exact .lst (SqL.of h1) (Reps.dp f h2)
  | 0, .dic _ _, _, f, _ => f.elim
  | _ + 1, .dic _ _, _, f, _ => f.elim
  | 0, .strm, _, f, _ => f.elim
  | _ + 1, .strm, _, f, _ => f.elim
theorem Reps.dp : ∀ {n : Nat} {l : List PV} {vs : List V}, (∀ x ∈ l, Fl n x) → Reps K sa H l vs → DpAll K H vs (pds l)
  | _, [], _, _, h => by unfold Reps at h; subst h; exact .nil
  | n, p :: ps, _, f, h => by
    unfold Reps at h
    obtain ⟨v, r, rfl, h1, h2⟩ := h
    exact .cons (Rep.dp (f p List.mem_cons_self) h1) (Reps.dp (fun x hx => f x (List.mem_cons_of_mem _ hx)) h2)
end
theorem Top.dp {P : Addr → Prop} : ∀ {n : Nat} {p : PV} {v : V}, Fl n p → Top K sa (msk P H) H p v → Dp K H v (pd p)
  | n, .non, _, f, h => by rw [h.non]; exact .non
  | n, .bl b, _, f, h => by rw [h.bl]; exact .bl _
  | n, .int b, _, f, h => by rw [h.int]; exact .int _
  | n, .str b, _, f, h => by rw [h.str]; exact .str _
  | 0, .tup _, _, f, _ => f.elim
  | n + 1, .tup l, _, f, ⟨a, vs, e, h1, h2⟩ => by subst e; exact .tup h1 (Reps.dp f (Reps.same msk_top h2))
  | 0, .lst _, _, f, _ => f.elim
  | n + 1, .lst l, _, f, ⟨a, vs, e, h1, h2⟩ => by subst e; exact .lst (SqL.of h1) (Reps.dp f (Reps.same msk_top h2))
  | 0, .dic _ _, _, f, _ => f.elim
  | _ + 1, .dic _ _, _, f, _ => f.elim
  | 0, .strm, _, f, _ => f.elim
  | _ + 1, .strm, _, f, _ => f.elim
/-! ### operators -/
abbrev mem1 {e f : AV × V} {ts : Ts} : f ∈ e :: f :: ts := List.mem_cons_of_mem _ List.mem_cons_self
/-- == and != of data -/
def wEq (neg : Bool) : W2 := fun ρ ra rb Q => ∃ p q, look ρ ra = some p ∧ look ρ rb = some q ∧ Fl 9 p ∧ Fl 9 q ∧ Q (.fz (.bl (if neg then !eqp p q else eqp p q))) ρ
theorem o2_eq : Op2 C (wEq false) (rEqD C.K) := fun G ρ ts σ H x y ra rb Q' Q S ⟨p, q, e1, e2, f1, f2, w⟩ qq =>
  ⟨pd p, pd q, Top.dp f1 (S.top mem1 e1), Top.dp f2 (S.top List.mem_cons_self e2), f1.shaped (by decide), f2.shaped (by decide), qq _ _ w _ _ (S.pop.pop.pushSc rfl)⟩
theorem o2_ne : Op2 C (wEq true) (rNeD C.K) := fun G ρ ts σ H x y ra rb Q' Q S ⟨p, q, e1, e2, f1, f2, w⟩ qq =>
  ⟨pd p, pd q, Top.dp f1 (S.top mem1 e1), Top.dp f2 (S.top List.mem_cons_self e2), f1.shaped (by decide), f2.shaped (by decide), qq _ _ w _ _ (S.pop.pop.pushSc rfl)⟩
/-- in, not in: of a row of data; of a sign in a text -/
def wIn (neg : Bool) : W2 := fun ρ ra rb Q => ∃ p, look ρ ra = some p ∧ match look ρ rb with
  | some (.tup l) => Fl 9 p ∧ Fl 9 (.tup l) ∧ Q (.fz (.bl (if neg then !l.any fun z => eqp z p else l.any fun z => eqp z p))) ρ
  | some (.lst l) => Fl 9 p ∧ Fl 9 (.lst l) ∧ Q (.fz (.bl (if neg then !l.any fun z => eqp z p else l.any fun z => eqp z p))) ρ
  | some (.str z) => ∃ c : Nat, p = .str ⟨#[c]⟩ ∧ Q (.fz (.bl (if neg then !decide (c ∈ z.cps.toList) else decide (c ∈ z.cps.toList)))) ρ
  | _ => False
def rInT (K : PySem.W.Frag) (neg : Bool) : R2 := fun x y H Q => ∃ d ds, Dp K H x d ∧ Dp K H y (.tuple ds) ∧ SeqAt.shaped d = true ∧ SeqAt.shaped (.tuple ds) = true ∧ Q (.bl (if neg then !ds.any fun z => PyData.eqv z d else ds.any fun z => PyData.eqv z d)) H
theorem op_inT {X : Cx} (hu : X.A.units + 65 < cLine) : OpR X (compareOp .In) (rInT X.K false) := by
  intro pins s σ H x y v u Q I rx ry h
  obtain ⟨d, ds, hd, he, sd, se, q⟩ := h
  obtain ⟨as, r1⟩ := Dp.reads I d x v hd rx
  obtain ⟨bs, r2⟩ := Dp.reads I (.tuple ds) y u he ry
  exact SeqAt.in_tuple_reads r2 r1 (SeqAt.canLay_of_shaped se) (SeqAt.canLay_of_shaped sd) (room_in_shaped sd hu) ⟨.bl _, H, I, rfl, q⟩
theorem op_notInT {X : Cx} (hu : X.A.units + 65 < cLine) : OpR X (compareOp .NotIn) (rInT X.K true) := by
  intro pins s σ H x y v u Q I rx ry h
  obtain ⟨d, ds, hd, he, sd, se, q⟩ := h
  obtain ⟨as, r1⟩ := Dp.reads I d x v hd rx
  obtain ⟨bs, r2⟩ := Dp.reads I (.tuple ds) y u he ry
  exact SeqAt.notIn_tuple_reads r2 r1 (SeqAt.canLay_of_shaped se) (SeqAt.canLay_of_shaped sd) (room_in_shaped sd hu) ⟨.bl _, H, I, rfl, q⟩
def rInSg (neg : Bool) : R2 := fun x y H Q => ∃ (c : Nat) (z : Str), x = .str ⟨#[c]⟩ ∧ y = .str z ∧ Q (.bl (if neg then !decide (c ∈ z.cps.toList) else decide (c ∈ z.cps.toList))) H
def rInL (K : PySem.W.Frag) (neg : Bool) : R2 := fun x y H Q => ∃ d ds, Dp K H x d ∧ Dp K H y (.list ds) ∧ SeqAt.shaped d = true ∧ SeqAt.shaped (.list ds) = true ∧ Q (.bl (if neg then !ds.any fun z => PyData.eqv z d else ds.any fun z => PyData.eqv z d)) H
def rInP (K : PySem.W.Frag) (neg : Bool) : R2 := fun x y H Q => rInT K neg x y H Q ∨ (rInL K neg x y H Q ∨ rInSg neg x y H Q)
theorem op_inP {X : Cx} (hu : X.A.units + 65 < cLine) : OpR X (compareOp .In) (rInP X.K false) := (op_inT hu).or (OpR.or (r := rInL X.K false) (op_inD hu) (r' := rInSg false) op_in_sign)
theorem op_notInP {X : Cx} (hu : X.A.units + 65 < cLine) : OpR X (compareOp .NotIn) (rInP X.K true) := (op_notInT hu).or (OpR.or (r := rInL X.K true) (op_notInD hu) (r' := rInSg true) op_notIn_sign)
theorem any_pd {l : List PV} {p : PV} : ((pds l).any fun z => PyData.eqv z (pd p)) = l.any fun z => eqp z p := by
  rw [pds_map, List.any_map]
  rfl
theorem o2_in {neg : Bool} : Op2 C (wIn neg) (rInP C.K neg) := fun G ρ ts σ H x y ra rb Q' Q S ⟨p, e1, w⟩ q => by
  have t1 := S.top mem1 e1
  split at w
  · rename_i l e2
    obtain ⟨f1, f2, w⟩ := w
    have t2 := Top.dp f2 (S.top List.mem_cons_self e2)
    refine .inl ⟨pd p, pds l, Top.dp f1 t1, by unfold pd at t2; exact t2, f1.shaped (by decide), by have := f2.shaped (by decide); unfold pd at this; exact this, ?_⟩
    rw [any_pd]
    exact q _ _ w _ _ (S.pop.pop.pushSc rfl)
  · rename_i l e2
    obtain ⟨f1, f2, w⟩ := w
    have t2 := Top.dp f2 (S.top List.mem_cons_self e2)
    refine .inr (.inl ⟨pd p, pds l, Top.dp f1 t1, by unfold pd at t2; exact t2, f1.shaped (by decide), by have := f2.shaped (by decide); unfold pd at this; exact this, ?_⟩)
    rw [any_pd]
    exact q _ _ w _ _ (S.pop.pop.pushSc rfl)
  · rename_i z e2
    obtain ⟨c, rfl, w⟩ := w
    exact .inr (.inr ⟨c, z, t1.str, (S.top List.mem_cons_self e2).str, q _ _ w _ _ (S.pop.pop.pushSc rfl)⟩)
  · exact w.elim
/-- is None -/
def wIsN (neg : Bool) : W2 := fun ρ ra rb Q => ∃ p, look ρ ra = some p ∧ look ρ rb = some .non ∧ Q (.fz (.bl (match p with | .non => !neg | _ => neg))) ρ
def rIsN : R2 := fun x y H Q => y = .non ∧ Q (.bl (decide (x = .non))) H
def rNotN : R2 := fun x y H Q => y = .non ∧ Q (.bl (!decide (x = .non))) H
theorem Top.isNon {Hm : Hp} {p : PV} {v : V} (h : Top K sa Hm H p v) : decide (v = .non) = match p with | .non => true | _ => false := by
  cases p with
  | tup l => obtain ⟨a, vs, rfl, _⟩ := h; rfl
  | lst l => obtain ⟨a, vs, rfl, _⟩ := h; rfl
  | dic k l => obtain ⟨a, vs, rfl, _⟩ := h; rfl
  | strm => simp only [Top, Rep] at h; obtain ⟨l, s, _, rfl⟩ := h; rfl
  | _ => simp only [Top, Rep] at h; subst h; rfl
theorem o2_isN : Op2 C (wIsN false) rIsN := fun G ρ ts σ H x y ra rb Q' Q S ⟨p, e1, e2, w⟩ q => by
  refine ⟨(S.top List.mem_cons_self e2).non, ?_⟩
  rw [(S.top mem1 e1).isNon]
  refine q _ _ w _ _ (S.pop.pop.pushSc ?_)
  cases p <;> rfl
theorem o2_notN : Op2 C (wIsN true) rNotN := fun G ρ ts σ H x y ra rb Q' Q S ⟨p, e1, e2, w⟩ q => by
  refine ⟨(S.top List.mem_cons_self e2).non, ?_⟩
  rw [(S.top mem1 e1).isNon]
  refine q _ _ w _ _ (S.pop.pop.pushSc ?_)
  cases p <;> rfl
/-- < and its like, of ints and of texts -/
def cmpI : CmpOp → Int → Int → Bool
  | .Lt, i, j => decide (i < j)
  | .LtE, i, j => decide (i ≤ j)
  | .Gt, i, j => decide (j < i)
  | _, i, j => decide (j ≤ i)
def cmpS : CmpOp → Str → Str → Bool
  | .Lt, i, j => decide (i.cps.toList < j.cps.toList)
  | .LtE, i, j => !decide (j.cps.toList < i.cps.toList)
  | .Gt, i, j => decide (j.cps.toList < i.cps.toList)
  | _, i, j => !decide (i.cps.toList < j.cps.toList)
def wCmp (op : CmpOp) : W2 := fun ρ ra rb Q => match look ρ ra, look ρ rb with
  | some (.int i), some (.int j) => Q (.fz (.bl (cmpI op i j))) ρ
  | some (.str i), some (.str j) => Q (.fz (.bl (cmpS op i j))) ρ
  | _, _ => False
def rCmpS (op : CmpOp) : R2 := fun x y H Q => ∃ i j, x = .str i ∧ y = .str j ∧ Q (.bl (cmpS op i j)) H
def rCmp (op : CmpOp) : R2 := fun x y H Q => rI0 (fun i j => .bl (cmpI op i j)) x y H Q ∨ rCmpS op x y H Q
theorem op_ltP {X : Cx} : OpR X (compareOp .Lt) (rCmp .Lt) := OpR.or (r := rI0 _) op_lt (r' := rCmpS .Lt) op_lt_str
theorem op_leP {X : Cx} : OpR X (compareOp .LtE) (rCmp .LtE) := OpR.or (r := rI0 _) op_le (r' := rCmpS .LtE) op_le_str
theorem op_gtP {X : Cx} : OpR X (compareOp .Gt) (rCmp .Gt) := OpR.or (r := rI0 _) op_gt (r' := rCmpS .Gt) op_gt_str
theorem op_geP {X : Cx} : OpR X (compareOp .GtE) (rCmp .GtE) := OpR.or (r := rI0 _) op_ge (r' := rCmpS .GtE) op_ge_str
theorem o2_cmp {op : CmpOp} : Op2 C (wCmp op) (rCmp op) := fun G ρ ts σ H x y ra rb Q' Q S w q => by
  unfold wCmp at w
  split at w
  · rename_i i j e1 e2
    exact .inl ⟨i, j, (S.top mem1 e1).int, (S.top List.mem_cons_self e2).int, q _ _ w _ _ (S.pop.pop.pushSc rfl)⟩
  · rename_i i j e1 e2
    exact .inr ⟨i, j, (S.top mem1 e1).str, (S.top List.mem_cons_self e2).str, q _ _ w _ _ (S.pop.pop.pushSc rfl)⟩
  · exact w.elim
/-- * of ints; a list some times -/
def wMul : W2 := fun ρ ra rb Q => match look ρ ra, look ρ rb with
  | some (.int i), some (.int j) => CMul i j ∧ Q (.fz (.int (i * j))) ρ
  | some (.lst l), some (.int k) => k < 2 ^ 62 ∧ -(2 ^ 62) < k ∧ l.length * k.toNat ≤ sizeLine ∧ Q (.ow (.lst (List.replicate k.toNat l).flatten)) ρ
  | _, _ => False
def rMul : R2 := fun x y H Q => rI CMul (fun i j => .int (i * j)) x y H Q ∨ rRep x y H Q
theorem op_mulP {X : Cx} : OpR X (binaryOp .Mult) rMul := op_mul.or op_rep
theorem Reps.rep {ps : List PV} {vs : List V} (h : Reps K sa H ps vs) : ∀ n : Nat, Reps K sa H (List.replicate n ps).flatten (List.replicate n vs).flatten
  | 0 => Reps.nil
  | n + 1 => by
    rw [List.replicate_succ, List.replicate_succ, List.flatten_cons, List.flatten_cons]
    exact Reps.append h (Reps.rep h n)
theorem o2_mul : Op2 C wMul rMul := fun G ρ ts σ H x y ra rb Q' Q S w q => by
  unfold wMul at w
  split at w
  · rename_i i j e1 e2
    exact .inl ⟨i, j, (S.top mem1 e1).int, (S.top List.mem_cons_self e2).int, w.1, q _ _ w.2 _ _ (S.pop.pop.pushSc rfl)⟩
  · rename_i l k e1 e2
    obtain ⟨a, vs, rfl, h1, h2⟩ := S.top mem1 e1
    obtain ⟨k1, k2, hz, w⟩ := w
    have hl := h2.length
    refine .inr ⟨a, k, vs, rfl, (S.top List.mem_cons_self e2).int, h1, by omega, by omega, by rw [hl]; exact hz, fun p np => ?_⟩
    exact q _ _ w _ _ (S.pop.pop.newLst np (Reps.rep (Reps.popped (Reps.popped h2)) _))
  · exact w.elim
/-- % and // by a number above 0 -/
def wMod : W2 := wII (fun _ j => 0 < j) fun i j => .int (i % j)
def wDiv : W2 := wII CDiv fun i j => .int (i / j)
def wSub : W2 := wII (fun _ _ => True) fun i j => .int (i - j)
theorem o2_mod : Op2 C wMod (rI (fun _ j => 0 < j) fun i j => .int (i % j)) := o2_I fun _ _ => rfl
theorem o2_div : Op2 C wDiv (rI CDiv fun i j => .int (i / j)) := o2_I fun _ _ => rfl
theorem o2_sub : Op2 C wSub (rI0 fun i j => .int (i - j)) := o2_I0 fun _ _ => rfl
/-! ### one place -/
variable {X : Cx} {a b c : Expr} {pos : Pos} {wa wb wc : WE}
def wNeg (wa : WE) : WE := fun ρ Q E => wa ρ (fun r ρ' => ∃ i, look ρ' r = some (.int i) ∧ Q (.fz (.int (-i))) ρ') E
theorem qe_neg (ha : QE X C a wa) : QE X C (.UnaryOp .USub a pos) (wNeg wa) :=
  PE.imp (pe_un un_neg ha) fun σ H Q ⟨G, ρ, ts, Q', E', S, w, q, ee⟩ => ⟨G, ρ, ts, _, E', S, w, fun r ρ' ⟨i, e, w⟩ v H' S' => ⟨i, (S'.top List.mem_cons_self e).int, q _ _ w _ _ (S'.pop.pushSc rfl)⟩, ee⟩
/-! ### tests -/
/-- a value's truth -/
def truth : PV → Option Bool
  | .non => some false
  | .bl b => some b
  | .int i => some (i != 0)
  | .str x => some ((x.length : Int) != 0)
  | .tup l => some !l.isEmpty
  | .lst l => some !l.isEmpty
  | _ => none
def szOk : PV → Prop
  | .str x => x.length ≤ sizeLine
  | _ => True
def wTru (w : WE) : WT := fun ρ Q E => w ρ (fun r ρ' => ∃ p b, look ρ' r = some p ∧ truth p = some b ∧ szOk p ∧ Q b ρ') E
theorem Reps.empty {l : List PV} {vs : List V} (h : Reps K sa Hm l vs) : (!vs.isEmpty) = !l.isEmpty := by
  cases l with
  | nil => unfold Reps at h; subst h; rfl
  | cons p ps => unfold Reps at h; obtain ⟨v, r, rfl, _⟩ := h; rfl
theorem qt_val (ha : QE X C a wa) (hk : X.K = C.K) (he : ∀ whole, isTrue a X.env whole = (do let v ← whole; standAt a.pos; holding [v] (truthy v))) : QT X C a (wTru wa) :=
  PT.imp (pt_truth ha he) fun σ H Q ⟨G, ρ, ts, Q', E', S, w, q, ee⟩ => ⟨G, ρ, ts, _, E', S, w, fun r ρ' ⟨p, b, e, et, ez, w⟩ v H' S' => by
    have t := S'.top List.mem_cons_self e
    refine ⟨b, ?_, q _ _ w _ S'.pop⟩
    rw [hk]
    cases p with
    | non => cases et; rw [t.non]; rfl
    | bl k => cases et; rw [t.bl]; rfl
    | int k => cases et; rw [t.int]; rfl
    | str k => cases et; rw [t.str]; exact ⟨ez, rfl⟩
    | tup l =>
      cases et
      obtain ⟨p, vs, rfl, h1, h2⟩ := t
      exact .inr (.inl ⟨vs, h1, h2.empty.symm⟩)
    | lst l =>
      cases et
      obtain ⟨p, vs, rfl, h1, h2⟩ := t
      exact .inl ⟨vs, SqL.of h1, h2.empty.symm⟩
    | dic k l => cases et
    | strm => exact (by cases et), ee⟩
def wAnd (t u : WT) : WT := fun ρ Q E => t ρ (fun b ρ' => if b = true then u ρ' Q E else Q false ρ') E
def wOr (t u : WT) : WT := fun ρ Q E => t ρ (fun b ρ' => if b = true then Q true ρ' else u ρ' Q E) E
def wNot (t : WT) : WT := fun ρ Q E => t ρ (fun b ρ' => Q (!b) ρ') E
def QW (X : Cx) (C : CC) (e : Expr) (w : WT) : Prop := PW X e (tPT C w)
theorem PW.imp {e : Expr} {t t' : TT} (h : PW X e t) (i : ∀ σ H Q, t' σ H Q → t σ H Q) : PW X e t' := ⟨fun wh pins s σ H Q I q => h.run wh pins s σ H Q I (i σ H Q q)⟩
variable {ta tb : WT} {rest : List Expr}
theorem qw_and1 (ha : QT X C a ta) : QW X C (.BoolOp .And [a] pos) ta := pw_and1 ha
theorem qw_or1 (ha : QT X C a ta) : QW X C (.BoolOp .Or [a] pos) ta := pw_or1 ha
theorem qw_and (ha : QT X C a ta) (hb : QW X C (.BoolOp .And (b :: rest) pos) tb) : QW X C (.BoolOp .And (a :: b :: rest) pos) (wAnd ta tb) :=
  PW.imp (pw_and ha hb) fun σ H Q ⟨G, ρ, ts, Q', E', S, w, q, ee⟩ => ⟨G, ρ, ts, _, E', S, w, fun k ρ' w H' S' => by
    cases k with
    | true => rw [if_pos rfl] at w ⊢; exact ⟨G, ρ', ts, Q', E', S', w, q, ee⟩
    | false => rw [if_neg (by decide)] at w ⊢; exact q _ _ w _ S', ee⟩
theorem qw_or (ha : QT X C a ta) (hb : QW X C (.BoolOp .Or (b :: rest) pos) tb) : QW X C (.BoolOp .Or (a :: b :: rest) pos) (wOr ta tb) :=
  PW.imp (pw_or ha hb) fun σ H Q ⟨G, ρ, ts, Q', E', S, w, q, ee⟩ => ⟨G, ρ, ts, _, E', S, w, fun k ρ' w H' S' => by
    cases k with
    | true => rw [if_pos rfl] at w ⊢; exact q _ _ w _ S'
    | false => rw [if_neg (by decide)] at w ⊢; exact ⟨G, ρ', ts, Q', E', S', w, q, ee⟩, ee⟩
theorem qt_w {e : Expr} {t : WT} (h : QW X C e t) : QT X C e t := h.pt
theorem qt_not (ha : QT X C a ta) : QT X C (.UnaryOp .Not a pos) (wNot ta) :=
  PT.imp (pt_not ha) fun σ H Q ⟨G, ρ, ts, Q', E', S, w, q, ee⟩ => ⟨G, ρ, ts, _, E', S, w, fun k ρ' w H' S' => q _ _ w _ S', ee⟩
/-! .. as values: all but the last must be bools -/
def wAndV (wa wb : WE) : WE := fun ρ Q E => wa ρ (fun r ρ' => ∃ b, look ρ' r = some (.bl b) ∧ if b = true then wb ρ' Q E else Q (.fz (.bl false)) ρ') E
def wOrV (wa wb : WE) : WE := fun ρ Q E => wa ρ (fun r ρ' => ∃ b, look ρ' r = some (.bl b) ∧ if b = true then Q (.fz (.bl true)) ρ' else wb ρ' Q E) E
def wNotV (wa : WE) : WE := fun ρ Q E => wa ρ (fun r ρ' => ∃ b, look ρ' r = some (.bl b) ∧ Q (.fz (.bl !b)) ρ') E
theorem qe_one {op} (h : QE X C a wa) : QE X C (.BoolOp op [a] pos) wa := pe_one h
theorem qe_and (ha : QE X C a wa) (hb : QE X C (.BoolOp .And (b :: rest) pos) wb) : QE X C (.BoolOp .And (a :: b :: rest) pos) (wAndV wa wb) :=
  PE.imp (pe_and ha hb) fun σ H Q ⟨G, ρ, ts, Q', E', S, w, q, ee⟩ => ⟨G, ρ, ts, _, E', S, w, fun r ρ' ⟨k, e, w⟩ v H' S' => by
    refine ⟨k, (S'.top List.mem_cons_self e).bl, ?_⟩
    cases k with
    | true => rw [if_pos rfl] at w ⊢; exact ⟨G, ρ', ts, Q', E', S'.pop, w, q, ee⟩
    | false => rw [if_neg (by decide)] at w ⊢; exact q _ _ w _ _ (S'.pop.pushSc rfl), ee⟩
theorem qe_or (ha : QE X C a wa) (hb : QE X C (.BoolOp .Or (b :: rest) pos) wb) : QE X C (.BoolOp .Or (a :: b :: rest) pos) (wOrV wa wb) :=
  PE.imp (pe_or ha hb) fun σ H Q ⟨G, ρ, ts, Q', E', S, w, q, ee⟩ => ⟨G, ρ, ts, _, E', S, w, fun r ρ' ⟨k, e, w⟩ v H' S' => by
    refine ⟨k, (S'.top List.mem_cons_self e).bl, ?_⟩
    cases k with
    | true => rw [if_pos rfl] at w ⊢; exact q _ _ w _ _ (S'.pop.pushSc rfl)
    | false => rw [if_neg (by decide)] at w ⊢; exact ⟨G, ρ', ts, Q', E', S'.pop, w, q, ee⟩, ee⟩
theorem qe_not (ha : QE X C a wa) : QE X C (.UnaryOp .Not a pos) (wNotV wa) :=
  PE.imp (pe_not ha) fun σ H Q ⟨G, ρ, ts, Q', E', S, w, q, ee⟩ => ⟨G, ρ, ts, _, E', S, w, fun r ρ' ⟨k, e, w⟩ v H' S' => ⟨k, (S'.top List.mem_cons_self e).bl, q _ _ w _ _ (S'.pop.pushSc rfl)⟩, ee⟩
def wIf (t : WT) (wa wb : WE) : WE := fun ρ Q E => t ρ (fun b ρ' => if b = true then wa ρ' Q E else wb ρ' Q E) E
theorem qe_if (hc : QT X C c ta) (ha : QE X C a wa) (hb : QE X C b wb) : QE X C (.IfExp c a b pos) (wIf ta wa wb) :=
  PE.imp (pe_ifExp hc ha hb) fun σ H Q ⟨G, ρ, ts, Q', E', S, w, q, ee⟩ => ⟨G, ρ, ts, _, E', S, w, fun k ρ' w H' S' => by
    cases k with
    | true => rw [if_pos rfl] at w ⊢; exact ⟨G, ρ', ts, Q', E', S', w, q, ee⟩
    | false => rw [if_neg (by decide)] at w ⊢; exact ⟨G, ρ', ts, Q', E', S', w, q, ee⟩, ee⟩
/-- a op1 b op2 c of ints, with b named once -/
def wChain (op op' : CmpOp) (wa wb wc : WE) : WE := fun ρ Q E => wa ρ (fun ra ρ1 => wb ρ1 (fun rb ρ2 => ∃ i j, look ρ2 ra = some (.int i) ∧ look ρ2 rb = some (.int j) ∧ if cmpI op i j = true then wc ρ2 (fun rc ρ3 => ∃ k, look ρ3 rc = some (.int k) ∧ Q (.fz (.bl (cmpI op' j k))) ρ3) E else Q (.fz (.bl false)) ρ2) E) E
theorem tChain_of {op op' : CmpOp} {σ : L2.St} {H : Hp} {Q : VK} (h : tP C (wChain op op' wa wb wc) σ H Q) :
    tChain (rI0 fun i j => .bl (cmpI op i j)) (rI0 fun i j => .bl (cmpI op' i j)) (tP C wa) (tP C wb) (tP C wc) σ H Q := by
  obtain ⟨G, ρ, ts, Q', E', S, w, q, ee⟩ := h
  refine ⟨G, ρ, ts, _, E', S, w, fun ra ρ1 w1 x H1 S1 => ⟨G, ρ1, (ra, x) :: ts, _, E', S1, w1, fun rb ρ2 ⟨i, j, e1, e2, w3⟩ y H2 S2 => ?_, ee⟩, ee⟩
  refine ⟨i, j, (S2.top mem1 e1).int, (S2.top List.mem_cons_self e2).int, _, rfl, ?_⟩
  by_cases h : cmpI op i j = true
  · rw [if_pos h] at w3 ⊢
    refine ⟨G, ρ2, ts, _, E', S2.pop.pop, w3, fun rc ρ3 ⟨k, e3, w4⟩ z H3 S3 => ?_, ee⟩
    exact ⟨j, k, (S2.top List.mem_cons_self e2).int, (S3.top List.mem_cons_self e3).int, q _ _ w4 _ _ (S3.pop.pushSc rfl)⟩
  · rw [if_neg h] at w3 ⊢
    exact q _ _ w3 _ _ (S2.pop.pop.pushSc rfl)
def opI0R (X : Cx) (op : CmpOp) : Prop := OpR X (compareOp op) (rI0 fun i j => .bl (cmpI op i j))
theorem oi_lt : opI0R X .Lt := op_lt
theorem oi_le : opI0R X .LtE := op_le
theorem oi_gt : opI0R X .Gt := op_gt
theorem oi_ge : opI0R X .GtE := op_ge
theorem qe_chain {op op' : CmpOp} (ho : opI0R X op) (ho' : opI0R X op') (ha : QE X C a wa) (hb : QE X C b wb) (hc : QE X C c wc) (hm : lastMarks [op, op'] [b, c] = false := by with_unfolding_all rfl) : QE X C (.Compare a [op, op'] [b, c] pos) (wChain op op' wa wb wc) :=
  PE.imp (pe_chain ho ho' ha hb hc hm) fun _ _ _ h => tChain_of h
theorem qt_chain {op op' : CmpOp} (ho : opI0R X op) (ho' : opI0R X op') (ha : QE X C a wa) (hb : QE X C b wb) (hc : QE X C c wc) (hm : lastMarks [op, op'] [b, c] = false := by with_unfolding_all rfl) : QT X C (.Compare a [op, op'] [b, c] pos) (wB (wChain op op' wa wb wc)) :=
  PT.imp (pt_chain ho ho' ha hb hc hm) fun σ H Q ⟨G, ρ, ts, Q', E', S, w, q, ee⟩ =>
    tChain_of (Q := fun x H' => ∃ k, x = .bl k ∧ Q k H') ⟨G, ρ, ts, _, E', S, w, fun r ρ' ⟨b, e, w⟩ v H' S' => ⟨b, (S'.top List.mem_cons_self e).bl, q _ _ w _ S'.pop⟩, ee⟩
/-! ### rows of arguments, displays -/
variable {e : Expr} {es : List Expr} {w : WE} {wr : WA}
def wNil : WA := fun ρ Q _ => Q [] ρ
def wCons (w : WE) (wr : WA) : WA := fun ρ Q E => w ρ (fun r ρ1 => wr ρ1 (fun rs ρ2 => Q (r :: rs) ρ2) E) E
theorem qa_nil : QA X C [] wNil := PA.imp pa_nil fun σ H Q ⟨G, ρ, ts, Q', E', S, w, q, ee⟩ => q _ _ w _ _ rfl S
theorem qa_cons (ha : QE X C e w) (hr : QA X C es wr) (hs : starEach (e :: es) X.env = (false, eval e X.env) :: starEach es X.env := by rfl) : QA X C (e :: es) (wCons w wr) :=
  PA.imp (pa_cons ha hr hs) fun σ H Q ⟨G, ρ, ts, Q', E', S, w, q, ee⟩ => ⟨G, ρ, ts, _, E', S, w, fun r ρ1 w1 x H1 S1 => ⟨G, ρ1, (r, x) :: ts, _, E', S1, w1, fun rs ρ2 w2 xs H2 hl S2 =>
    q _ _ w2 _ _ (by rw [List.length_cons, List.length_cons, hl]) (S2.perm (List.perm_middle)), ee⟩, ee⟩
def wTup (wr : WA) : WE := fun ρ Q E => wr ρ (fun rs ρ' => match fzAll ρ' rs with
  | some (ps, ρ2) => ps.length ≤ sizeLine ∧ Q (.fz (.tup ps)) ρ2
  | none => False) E
def wLst (wr : WA) : WE := fun ρ Q E => wr ρ (fun rs ρ' => match fzAll ρ' rs with
  | some (ps, ρ2) => ps.length ≤ sizeLine ∧ Q (.ow (.lst ps)) ρ2
  | none => False) E
theorem fz_split {rs : List AV} {R : List PV → En → Prop} (w : match fzAll ρ rs with | some (ps, ρ2) => R ps ρ2 | none => False) : ∃ ps ρ2, fzAll ρ rs = some (ps, ρ2) ∧ R ps ρ2 := by
  split at w
  · rename_i ps ρ2 e
    exact ⟨ps, ρ2, e, w⟩
  · exact w.elim
theorem qe_tup {x1} (h : QA X C es wr) : QE X C (.Tuple es x1 pos) (wTup wr) :=
  PE.imp (pe_tup h) fun σ H Q ⟨G, ρ, ts, Q', E', S, w, q, ee⟩ => ⟨G, ρ, ts, _, E', S, w, fun rs ρ' w vs H' hl S' => by
    obtain ⟨ps, ρ2, ef, hz, w⟩ := fz_split w
    obtain ⟨h1, S2⟩ := S'.fzAll hl ef
    exact ⟨by omega, fun p np => q _ _ w _ _ (S2.dropN.newTup np (S2.argsRep (by omega)))⟩, ee⟩
theorem qe_lst (h : QA X C es wr) : QE X C (.List es pos) (wLst wr) :=
  PE.imp (pe_lst h) fun σ H Q ⟨G, ρ, ts, Q', E', S, w, q, ee⟩ => ⟨G, ρ, ts, _, E', S, w, fun rs ρ' w vs H' hl S' => by
    obtain ⟨ps, ρ2, ef, hz, w⟩ := fz_split w
    obtain ⟨h1, S2⟩ := S'.fzAll hl ef
    exact ⟨by omega, fun p np => q _ _ w _ _ (S2.dropN.newLst np (S2.argsRep (by omega)))⟩, ee⟩
end SyP
set_option autoImplicit false
/-! Pure words 5: parts of rows and texts, calls, methods. -/
namespace SyP
open PySem PySem.Spec PyProof.Rows L2 Sy
variable {K : PySem.W.Frag} {sa : SA} {H H' Hm : Hp} {G : Gh} {ρ ρ' : En} {ts ts' : Ts} {σ σ' : L2.St} {C : CC} {X : Cx} {a b c : Expr} {pos p2 : Pos} {wa wb wc w : WE} {e : Expr} {es : List Expr} {wr : WA}
/-! ### items -/
theorem Reps.atI {l : List PV} {vs : List V} {i : Int} {p : PV} (h : Reps K sa H l vs) (e : atI l i = some p) : ∃ v, atI vs i = some v ∧ Rep K sa H p v := by
  unfold L2.atI at e ⊢
  rw [h.length]
  cases q : ixN l.length i with
  | none => rw [q] at e; cases e
  | some j =>
    rw [q] at e
    exact h.get e
/-- a value of a dict by its key -/
def dget : List PV → List PV → PV → Option PV
  | k :: ks, v :: vs, x => if eqp k x then some v else dget ks vs x
  | _, _, _ => none
def wIx : W2 := fun ρ ra rb Q => match look ρ ra, look ρ rb with
  | some (.tup l), some (.int i) => ∃ p, atI l i = some p ∧ Q (.fz p) ρ
  | some (.lst l), some (.int i) => ∃ p, atI l i = some p ∧ Q (.fz p) ρ
  | some (.str z), some (.int i) => z.length ≤ sizeLine ∧ ∃ c, atI z.cps.toList i = some c ∧ Q (.fz (.str ⟨#[c]⟩)) ρ
  | _, _ => False
theorem o2_ix : Op2 C wIx (rIx C.K) := fun G ρ ts σ H x y ra rb Q' Q S w q => by
  unfold wIx at w
  split at w
  · rename_i l i e1 e2
    obtain ⟨p, e, w⟩ := w
    obtain ⟨a, vs, rfl, h1, h2⟩ := S.top mem1 e1
    obtain ⟨v, e3, e4⟩ := h2.atI e
    exact .inr (.inl ⟨a, vs, i, v, rfl, (S.top List.mem_cons_self e2).int, h1, e3, q _ _ w _ _ (S.pop.pop.push (Rep.popped (Rep.popped e4)))⟩)
  · rename_i l i e1 e2
    obtain ⟨p, e, w⟩ := w
    obtain ⟨a, vs, rfl, h1, h2⟩ := S.top mem1 e1
    obtain ⟨v, e3, e4⟩ := h2.atI e
    exact .inl ⟨a, vs, i, v, rfl, (S.top List.mem_cons_self e2).int, SqL.of h1, e3, q _ _ w _ _ (S.pop.pop.push (Rep.popped (Rep.popped e4)))⟩
  · rename_i z i e1 e2
    obtain ⟨hz, c, e, w⟩ := w
    exact .inr (.inr ⟨z, i, c, (S.top mem1 e1).str, (S.top List.mem_cons_self e2).int, hz, e, q _ _ w _ _ (S.pop.pop.pushSc rfl)⟩)
  · exact w.elim
theorem qe_ix (hk : X.K = C.K) (ha : QE X C a wa) (hb : QE X C b wb) (hs : PlainIx b) : QE X C (.Subscript a b pos) (wOp wIx wa wb) :=
  PE.imp (pe_ix (r := rIx C.K) (hk ▸ ix_seq) ha hb hs) fun _ _ _ h => tOp_of o2_ix h
/-! ### parts -/
def cutL {α : Type} (xs : List α) (lo hi : Option Int) : List α := (xs.drop (HT.sIx xs.length 0 lo)).take (HT.sIx xs.length xs.length hi - HT.sIx xs.length 0 lo)
abbrev WO := En → (Option AV → En → Prop) → (PX → Prop) → Prop
def wNo : WO := fun ρ Q _ => Q none ρ
def wYes (w : WE) : WO := fun ρ Q E => w ρ (fun r ρ' => Q (some r) ρ') E
/-- the part's place as an int -/
def part (ρ : En) : Option AV → Option (Option Int)
  | none => some none
  | some r => match look ρ r with
    | some (.int i) => some (some i)
    | _ => none
/-- what the temporaries of a part are -/
def otT : Option AV → Option Int → Ts
  | some r, some i => [(r, .int i)]
  | _, _ => []
def tPO (C : CC) (w : WO) : TO := fun σ H Q => ∃ G ρ ts Q' E', Sta C.K G ρ ts σ H ∧ w ρ Q' E' ∧ (∀ r ρ', Q' r ρ' → ∃ o, part ρ' r = some o ∧ ∀ H', Sta C.K G ρ' ts σ H' → Q o H') ∧ EEx C G E'
def QO (X : Cx) (C : CC) (e : Option Expr) (w : WO) : Prop := PO X e (tPO C w)
theorem PO.imp {e : Option Expr} {t t' : TO} (h : PO X e t) (i : ∀ σ H Q, t' σ H Q → t σ H Q) : PO X e t' := ⟨fun pins s σ H Q I q => h.run pins s σ H Q I (i σ H Q q)⟩
theorem qo_none : QO X C none wNo := PO.imp po_none fun σ H Q ⟨G, ρ, ts, Q', E', S, w, q, ee⟩ => by
  obtain ⟨o, e, k⟩ := q _ _ w
  cases e
  exact k _ S
theorem qo_some (h : QE X C e w) : QO X C (some e) (wYes w) := PO.imp (po_some h) fun σ H Q ⟨G, ρ, ts, Q', E', S, w, q, ee⟩ =>
  ⟨G, ρ, ts, _, E', S, w, fun r ρ' w v H' S' => by
    obtain ⟨o, e, k⟩ := q _ _ w
    unfold part at e
    split at e
    · rename_i er
      cases er
    · rename_i r' er
      cases er
      split at e
      · rename_i i ei
        cases e
        exact ⟨i, (S'.top List.mem_cons_self ei).int, k _ S'.pop⟩
      · exact (nomatch e), ee⟩
theorem cutL_map {α β : Type} (f : α → β) (xs : List α) (lo hi : Option Int) : cutL (xs.map f) lo hi = (cutL xs lo hi).map f := by
  unfold cutL
  rw [List.length_map, List.map_take, List.map_drop]
theorem Reps.cut {l : List PV} {vs : List V} (h : Reps K sa H l vs) (lo hi : Option Int) : Reps K sa H (cutL l lo hi) (cutV vs lo hi) := by
  unfold cutL cutV
  rw [h.length]
  exact (h.drop _).take _
/-- a[lo:hi] -/
def wSl (wa : WE) (wl wh : WO) : WE := fun ρ Q E => wa ρ (fun ra ρ1 => wl ρ1 (fun rl ρ2 => ∃ lo, part ρ2 rl = some lo ∧ wh ρ2 (fun rh ρ3 => ∃ hi, part ρ3 rh = some hi ∧ match look ρ3 ra with
  | some (.tup l) => Q (.fz (.tup (cutL l lo hi))) ρ3
  | some (.lst l) => Q (.ow (.lst (cutL l lo hi))) ρ3
  | some (.str z) => z.length ≤ sizeLine ∧ Q (.fz (.str (cutS z lo hi))) ρ3
  | _ => False) E) E) E
def rSlP (K : PySem.W.Frag) : V → Option Int → Option Int → Hp → VK → Prop := fun x lo hi H Q => rSlA K x lo hi H Q ∨ (rSlL K x lo hi H Q ∨ rSlS x lo hi H Q)
theorem sl_P : SlR X (rSlP X.K) := sl_tupA.or (sl_list.or sl_str)
/-- a tuple seen is frozen -/
theorem Sta.repTup {r : AV} {v : V} {l : List PV} (S : Sta K G ρ ts σ H) (he : (r, v) ∈ ts) (hl : look ρ r = some (.tup l)) : Rep K G.sa (msk (OA G ρ ts σ) H) (.tup l) v := by
  have t := S.tmp _ he
  cases r with
  | fz q => cases hl; exact t
  | ow q =>
    cases hl
    obtain ⟨a, e, o⟩ := t
    exact o.elim
  | br i =>
    have t : σ[i]? = some (some v) := t
    obtain ⟨r, hr⟩ := S.brn _ he i rfl
    obtain ⟨u, e1, e2⟩ := S.slot i r hr
    rw [t] at e1
    cases e1
    unfold look at hl
    simp only [hr] at hl
    cases r with
    | fz q => cases hl; exact e2
    | ow q =>
      cases hl
      obtain ⟨a, rfl, o⟩ := e2
      exact o.elim
    | br j => cases hl
theorem cut_whole {α : Type} {xs : List α} {lo hi : Option Int} (e : HT.sIx xs.length 0 lo = 0 ∧ HT.sIx xs.length xs.length hi = xs.length) : cutL xs lo hi = xs := by
  unfold cutL
  rw [e.1, e.2, List.drop_zero, Nat.sub_zero, List.take_length]
theorem qe_slice {lo hi : Option Expr} {wl wh : WO} (hk : X.K = C.K) (ha : QE X C a wa) (hl : QO X C lo wl) (hh : QO X C hi wh) : QE X C (.Subscript a (.Slice lo hi none p2) pos) (wSl wa wl wh) :=
  PE.imp (pe_slice (r := rSlP C.K) (hk ▸ sl_P) ha hl hh) fun σ H Q ⟨G, ρ, ts, Q', E', S, w, q, ee⟩ => ⟨G, ρ, ts, _, E', S, w, fun ra ρ1 w x H1 S1 =>
    ⟨G, ρ1, (ra, x) :: ts, _, E', S1, w, fun rl ρ2 ⟨lo, el, w⟩ => ⟨lo, el, fun H2 S2 => ⟨G, ρ2, (ra, x) :: ts, _, E', S2, w, fun rh ρ3 ⟨hi, eh, w⟩ => ⟨hi, eh, fun H3 S3 => by
      split at w
      · rename_i l e1
        have tr := S3.repTup List.mem_cons_self e1
        obtain ⟨a, vs, rfl, h1, h2⟩ := S3.top List.mem_cons_self e1
        refine .inl ⟨a, vs, rfl, h1, fun e => ?_, fun _ p np => q _ _ w _ _ (S3.pop.newTup np ((Reps.popped h2).cut lo hi))⟩
        have e' : cutL l lo hi = l := cut_whole (by rw [← h2.length]; exact e)
        rw [e'] at w
        exact q _ _ w _ _ (S3.pop.push (Rep.popped tr))
      · rename_i l e1
        obtain ⟨a, vs, rfl, h1, h2⟩ := S3.top List.mem_cons_self e1
        exact .inr (.inl ⟨a, vs, rfl, SqL.of h1, fun p np => q _ _ w _ _ (S3.pop.newLst np ((Reps.popped h2).cut lo hi))⟩)
      · rename_i z e1
        exact .inr (.inr ⟨z, (S3.top List.mem_cons_self e1).str, w.1, q _ _ w.2 _ _ (S3.pop.pushSc rfl)⟩)
      · exact w.elim⟩, ee⟩⟩, ee⟩, ee⟩
/-! ### calls of built-in things, by values -/
abbrev WB := En → List AV → PQ → Prop
def CaP (C : CC) (wb : WB) (r : List V → Hp → VK → Prop) : Prop := ∀ (G : Gh) (ρ : En) (ts : Ts) (σ : L2.St) (H : Hp) (rs : List AV) (vs : List V) (Q' : PQ) (Q : VK), vs.length = rs.length → Sta C.K G ρ (rs.zip vs ++ ts) σ H → wb ρ rs Q' →
  (∀ res ρ', Q' res ρ' → ∀ v H', Sta C.K G ρ' ((res, v) :: ts) σ H' → Q v H') → r vs H Q
def wCB (wb : WB) (wr : WA) : WE := fun ρ Q E => wr ρ (fun rs ρ' => wb ρ' rs Q) E
theorem tCB_of {wb : WB} {r : List V → Hp → VK → Prop} (hc : CaP C wb r) {σ : L2.St} {H : Hp} {Q : VK} (h : tP C (wCB wb wr) σ H Q) : tCB r (tPA C wr) σ H Q := by
  obtain ⟨G, ρ, ts, Q', E', S, w, q, ee⟩ := h
  exact ⟨G, ρ, ts, _, E', S, w, fun rs ρ' w vs H' hl S' => hc G ρ' ts σ H' rs vs Q' Q hl S' w q, ee⟩
theorem qe_callB {wb : WB} {r : List V → Hp → VK → Prop} {id : String} {x : Str} {p : Pos} (hp : CaP C wb r) (hc : CallR X (.builtin id) r) (hg : Gl X x) (hm : X.mg x = none) (hv : bootBuiltins x = some (.builtin id)) (ha : QA X C (e :: es) wr) (hn : x ≠ "__name__" := by decide) (hdb : (x == ("__debug__" : Str)) = false := by decide)
    (he : starEach (e :: es) X.env = (false, eval e X.env) :: starEach es X.env := by rfl) (hpl : (backTo pos (starEach es X.env)).any (·.1) = false := by rfl) : QE X C (.Call (.Name x p) (e :: es) [] pos) (wCB wb wr) :=
  PE.imp (pe_callB hc hg hm hv ha hn hdb he hpl) fun _ _ _ h => tCB_of hp h
theorem qe_callTy {wb : WB} {r : List V → Hp → VK → Prop} {T : String} {x : Str} {p : Pos} (hp : CaP C wb r) (hc : CallR X (.type T) r) (hg : Gl X x) (hm : X.mg x = none) (hv : bootBuiltins x = some (.type T)) (ha : QA X C (e :: es) wr) (hn : x ≠ "__name__" := by decide) (hdb : (x == ("__debug__" : Str)) = false := by decide)
    (he : starEach (e :: es) X.env = (false, eval e X.env) :: starEach es X.env := by rfl) (hpl : (backTo pos (starEach es X.env)).any (·.1) = false := by rfl) : QE X C (.Call (.Name x p) (e :: es) [] pos) (wCB wb wr) :=
  PE.imp (pe_callTy hc hg hm hv ha hn hdb he hpl) fun _ _ _ h => tCB_of hp h
theorem CaP.one {wb : WB} {r : List V → Hp → VK → Prop} (h1 : ∀ ρ rs Q, wb ρ rs Q → ∃ a, rs = [a])
    (h : ∀ (G : Gh) (ρ : En) (ts : Ts) (σ : L2.St) (H : Hp) (ra : AV) (v : V) (Q' : PQ) (Q : VK), Sta C.K G ρ ((ra, v) :: ts) σ H → wb ρ [ra] Q' → (∀ res ρ', Q' res ρ' → ∀ v H', Sta C.K G ρ' ((res, v) :: ts) σ H' → Q v H') → r [v] H Q) : CaP C wb r :=
  fun G ρ ts σ H rs vs Q' Q hl S w q => by
    obtain ⟨ra, rfl⟩ := h1 _ _ _ w
    match vs, hl with
    | [v], _ => exact h G ρ ts σ H ra v Q' Q S w q
/-- len -/
def lenP : PV → Option Nat
  | .str z => some z.length
  | .tup l => some l.length
  | .lst l => some l.length
  | _ => none
def wLen : WB := fun ρ rs Q => ∃ ra p n, rs = [ra] ∧ look ρ ra = some p ∧ lenP p = some n ∧ szOk p ∧ Q (.fz (.int (n : Nat))) ρ
def rLenP (K : PySem.W.Frag) : List V → Hp → VK → Prop := fun xs H Q => (∃ p ys, xs = [.ref p] ∧ (SqL K H p ys ∨ SqT K H p ys) ∧ Q (.int ys.length) H) ∨ ∃ z, xs = [.str z] ∧ z.length ≤ sizeLine ∧ Q (.int z.length) H
theorem ca_lenR : CallR X (.builtin "len") (rLenP X.K) := CallR.or (r := fun xs H Q => ∃ p ys, xs = [.ref p] ∧ (SqL X.K H p ys ∨ SqT X.K H p ys) ∧ Q (.int ys.length) H) call_len_seq call_len_str
theorem cp_len : CaP C wLen (rLenP C.K) := CaP.one (fun _ _ _ ⟨a, _, _, e, _⟩ => ⟨a, e⟩) fun G ρ ts σ H ra v Q' Q S ⟨_, p, n, e0, e, el, ez, w⟩ q => by
  cases e0
  have t := S.top List.mem_cons_self e
  cases p with
  | str z => cases el; exact .inr ⟨z, by rw [t.str], ez, q _ _ w _ _ (S.pop.pushSc rfl)⟩
  | tup l => cases el; obtain ⟨a, vs, rfl, h1, h2⟩ := t; exact .inl ⟨a, vs, rfl, .inr h1, by rw [h2.length]; exact q _ _ w _ _ (S.pop.pushSc rfl)⟩
  | lst l => cases el; obtain ⟨a, vs, rfl, h1, h2⟩ := t; exact .inl ⟨a, vs, rfl, .inl (SqL.of h1), by rw [h2.length]; exact q _ _ w _ _ (S.pop.pushSc rfl)⟩
  | _ => cases el
/-- list(row), tuple(row) -/
def itemsP : PV → Option (List PV)
  | .tup l => some l
  | .lst l => some l
  | _ => none
def wListOf : WB := fun ρ rs Q => ∃ ra p l, rs = [ra] ∧ look ρ ra = some p ∧ itemsP p = some l ∧ Q (.ow (.lst l)) ρ
def rListOf (K : PySem.W.Frag) : List V → Hp → VK → Prop := fun xs H Q => ∃ p ys, xs = [.ref p] ∧ (SqL K H p ys ∨ SqT K H p ys) ∧ ∀ l, H l = none → Q (.ref l) (upd H l (.lst ys))
theorem cp_list : CaP C wListOf (rListOf C.K) := CaP.one (fun _ _ _ ⟨a, _, _, e, _⟩ => ⟨a, e⟩) fun G ρ ts σ H ra v Q' Q S ⟨_, p, n, e0, e, el, w⟩ q => by
  cases e0
  have t := S.top List.mem_cons_self e
  cases p with
  | tup l => cases el; obtain ⟨a, vs, rfl, h1, h2⟩ := t; exact ⟨a, vs, rfl, .inr h1, fun l nl => q _ _ w _ _ (S.pop.newLst nl (Reps.popped h2))⟩
  | lst l => cases el; obtain ⟨a, vs, rfl, h1, h2⟩ := t; exact ⟨a, vs, rfl, .inl (SqL.of h1), fun l nl => q _ _ w _ _ (S.pop.newLst nl (Reps.popped h2))⟩
  | _ => cases el
def wTupOf : WB := fun ρ rs Q => ∃ ra p l, rs = [ra] ∧ look ρ ra = some p ∧ itemsP p = some l ∧ Q (.fz (.tup l)) ρ
def rTupOf (K : PySem.W.Frag) : List V → Hp → VK → Prop := fun xs H Q => ∃ p ys, xs = [.ref p] ∧ ((SqL K H p ys ∧ ∀ l, H l = none → Q (.ref l) (upd H l (.tup ys))) ∨ (SqT K H p ys ∧ Q (.ref p) H))
theorem cp_tuple : CaP C wTupOf (rTupOf C.K) := CaP.one (fun _ _ _ ⟨a, _, _, e, _⟩ => ⟨a, e⟩) fun G ρ ts σ H ra v Q' Q S ⟨_, p, n, e0, e, el, w⟩ q => by
  cases e0
  have t := S.top List.mem_cons_self e
  cases p with
  | tup l =>
    cases el
    have tr := S.repTup List.mem_cons_self e
    obtain ⟨a, vs, rfl, h1, h2⟩ := t
    exact ⟨a, vs, rfl, .inr ⟨h1, q _ _ w _ _ (S.pop.push (Rep.popped tr))⟩⟩
  | lst l => cases el; obtain ⟨a, vs, rfl, h1, h2⟩ := t; exact ⟨a, vs, rfl, .inl ⟨SqL.of h1, fun l nl => q _ _ w _ _ (S.pop.newTup nl (Reps.popped h2))⟩⟩
  | _ => cases el
/-- all, any, sum, min, max of a list of scalars -/
theorem Reps.bls : ∀ {bs : List Bool} {vs : List V}, Reps K sa Hm (bs.map PV.bl) vs → vs = bs.map V.bl
  | [], _, h => by unfold List.map Reps at h; exact h
  | b :: bs, _, h => by
    rw [List.map_cons] at h
    unfold Reps at h
    obtain ⟨v, r, rfl, h1, h2⟩ := h
    unfold Rep at h1
    rw [h1, Reps.bls h2]
    rfl
theorem Reps.ints : ∀ {bs : List Int} {vs : List V}, Reps K sa Hm (bs.map PV.int) vs → vs = bs.map V.int
  | [], _, h => by unfold List.map Reps at h; exact h
  | b :: bs, _, h => by
    rw [List.map_cons] at h
    unfold Reps at h
    obtain ⟨v, r, rfl, h1, h2⟩ := h
    unfold Rep at h1
    rw [h1, Reps.ints h2]
    rfl
theorem Reps.strs : ∀ {bs : List Str} {vs : List V}, Reps K sa Hm (bs.map PV.str) vs → vs = bs.map V.str
  | [], _, h => by unfold List.map Reps at h; exact h
  | b :: bs, _, h => by
    rw [List.map_cons] at h
    unfold Reps at h
    obtain ⟨v, r, rfl, h1, h2⟩ := h
    unfold Rep at h1
    rw [h1, Reps.strs h2]
    rfl
theorem Reps.of_ints : ∀ {bs : List Int}, Reps K sa Hm (bs.map PV.int) (bs.map V.int)
  | [] => Reps.nil
  | b :: bs => Reps.cons (by unfold Rep; rfl) Reps.of_ints
theorem Reps.of_strs : ∀ {bs : List Str}, Reps K sa Hm (bs.map PV.str) (bs.map V.str)
  | [] => Reps.nil
  | b :: bs => Reps.cons (by unfold Rep; rfl) Reps.of_strs
def wBools (g : List Bool → Bool) : WB := fun ρ rs Q => ∃ (ra : AV) (bs : List Bool), rs = [ra] ∧ look ρ ra = some (.lst (bs.map PV.bl)) ∧ Q (.fz (.bl (g bs))) ρ
theorem cp_all : CaP C (wBools fun bs => bs.all id) (rAll C.K) := CaP.one (fun _ _ _ ⟨a, _, e, _⟩ => ⟨a, e⟩) fun G ρ ts σ H ra v Q' Q S ⟨_, bs, e0, e, w⟩ q => by
  cases e0
  obtain ⟨a, vs, rfl, h1, h2⟩ := S.top List.mem_cons_self e
  rw [h2.bls] at h1
  exact ⟨a, bs, rfl, SqL.of h1, q _ _ w _ _ (S.pop.pushSc rfl)⟩
theorem cp_any : CaP C (wBools fun bs => bs.any id) (rAny C.K) := CaP.one (fun _ _ _ ⟨a, _, e, _⟩ => ⟨a, e⟩) fun G ρ ts σ H ra v Q' Q S ⟨_, bs, e0, e, w⟩ q => by
  cases e0
  obtain ⟨a, vs, rfl, h1, h2⟩ := S.top List.mem_cons_self e
  rw [h2.bls] at h1
  exact ⟨a, bs, rfl, SqL.of h1, q _ _ w _ _ (S.pop.pushSc rfl)⟩
def wSum : WB := fun ρ rs Q => ∃ (ra : AV) (ns : List Int), rs = [ra] ∧ look ρ ra = some (.lst (ns.map PV.int)) ∧ Q (.fz (.int ns.sum)) ρ
theorem cp_sum : CaP C wSum (rSum C.K) := CaP.one (fun _ _ _ ⟨a, _, e, _⟩ => ⟨a, e⟩) fun G ρ ts σ H ra v Q' Q S ⟨_, bs, e0, e, w⟩ q => by
  cases e0
  obtain ⟨a, vs, rfl, h1, h2⟩ := S.top List.mem_cons_self e
  rw [h2.ints] at h1
  exact ⟨a, bs, rfl, SqL.of h1, q _ _ w _ _ (S.pop.pushSc rfl)⟩
def wMax : WB := fun ρ rs Q => ∃ (ra : AV) (ns : List Int), rs = [ra] ∧ look ρ ra = some (.lst (ns.map PV.int)) ∧ 0 < ns.length ∧ ∀ m, m ∈ ns → (∀ y, y ∈ ns → y ≤ m) → Q (.fz (.int m)) ρ
theorem cp_max : CaP C wMax (rMax C.K) := CaP.one (fun _ _ _ ⟨a, _, e, _⟩ => ⟨a, e⟩) fun G ρ ts σ H ra v Q' Q S ⟨_, bs, e0, e, hz, w⟩ q => by
  cases e0
  obtain ⟨a, vs, rfl, h1, h2⟩ := S.top List.mem_cons_self e
  rw [h2.ints] at h1
  exact ⟨a, bs, rfl, SqL.of h1, hz, fun m h1 h2 => q _ _ (w m h1 h2) _ _ (S.pop.pushSc rfl)⟩
def wMin : WB := fun ρ rs Q => ∃ (ra : AV) (ns : List Int), rs = [ra] ∧ look ρ ra = some (.lst (ns.map PV.int)) ∧ 0 < ns.length ∧ ∀ m, m ∈ ns → (∀ y, y ∈ ns → m ≤ y) → Q (.fz (.int m)) ρ
theorem cp_min : CaP C wMin (rMin C.K) := CaP.one (fun _ _ _ ⟨a, _, e, _⟩ => ⟨a, e⟩) fun G ρ ts σ H ra v Q' Q S ⟨_, bs, e0, e, hz, w⟩ q => by
  cases e0
  obtain ⟨a, vs, rfl, h1, h2⟩ := S.top List.mem_cons_self e
  rw [h2.ints] at h1
  exact ⟨a, bs, rfl, SqL.of h1, hz, fun m h1 h2 => q _ _ (w m h1 h2) _ _ (S.pop.pushSc rfl)⟩
def wM2 (g : Int → Int → Int) : WB := fun ρ rs Q => ∃ ra rb i j, rs = [ra, rb] ∧ look ρ ra = some (.int i) ∧ look ρ rb = some (.int j) ∧ Q (.fz (.int (g i j))) ρ
def rM2 (g : Int → Int → Int) : List V → Hp → VK → Prop := fun xs H Q => ∃ i j, xs = [.int i, .int j] ∧ Q (.int (g i j)) H
theorem cp_m2 {g : Int → Int → Int} : CaP C (wM2 g) (rM2 g) := fun G ρ ts σ H rs vs Q' Q hl S ⟨ra, rb, i, j, e, e1, e2, w⟩ q => by
  subst e
  match vs, hl with
  | [x, y], _ =>
    exact ⟨i, j, by rw [(S.top (r := ra) List.mem_cons_self e1).int, (S.top (r := rb) (v := y) mem1 e2).int], q _ _ w _ _ (S.pop.pop.pushSc rfl)⟩
/-- int, abs of an int -/
def intOf : PV → Option Int
  | .int i => some i
  | .bl k => some (if k then 1 else 0)
  | _ => none
def wInt : WB := fun ρ rs Q => ∃ (ra : AV) (p : PV) (i : Int), rs = [ra] ∧ look ρ ra = some p ∧ intOf p = some i ∧ Q (.fz (.int i)) ρ
theorem cp_int : CaP C wInt (fun xs H Q => (∃ i, xs = [.int i] ∧ Q (.int i) H) ∨ ∃ k, xs = [.bl k] ∧ Q (.int (if k then 1 else 0)) H) := CaP.one (fun _ _ _ ⟨a, _, _, e, _⟩ => ⟨a, e⟩) fun G ρ ts σ H ra v Q' Q S ⟨_, p, i, e0, e, ei, w⟩ q => by
  cases e0
  have t := S.top List.mem_cons_self e
  have fin := q _ _ w (.int i) _ (S.pop.pushSc rfl)
  cases p with
  | int j => cases ei; exact .inl ⟨i, by rw [t.int], fin⟩
  | bl k => cases ei; exact .inr ⟨k, by rw [t.bl], fin⟩
  | _ => cases ei
/-- isinstance(x, T) -/
def isTy (T : String) : PV → Bool
  | .non => T == "NoneType"
  | .bl _ => T == "bool" || T == "int"
  | .int _ => T == "int"
  | .str _ => T == "str"
  | .tup _ => T == "tuple"
  | .lst _ => T == "list"
  | .dic _ _ => T == "dict"
  | .strm => T == "list"
theorem isi_key : ∀ T ∈ ["str", "int", "bool", "tuple", "list"], kitB "NoneType" T = some (T == "NoneType") ∧ kitB "bool" T = some (T == "bool" || T == "int") ∧ kitB "int" T = some (T == "int") ∧ kitB "str" T = some (T == "str") ∧ kitB "tuple" T = some (T == "tuple") ∧ kitB "list" T = some (T == "list") := by decide +kernel
def wIsi (T : String) (w : WE) : WE := fun ρ Q E => w ρ (fun r ρ' => ∃ p, look ρ' r = some p ∧ (match p with | .dic _ _ => False | .strm => False | _ => True) ∧ Q (.fz (.bl (isTy T p))) ρ') E
theorem qe_isi {T : String} {y : Str} {p p' : Pos} (hT : T ∈ ["str", "int", "bool", "tuple", "list"]) (hk : X.K = C.K) (hg : Gl X "isinstance") (hm : X.mg "isinstance" = none) (ha : QE X C a wa) (ht : PE X (.Name y p') (tC (.ty T)))
    (he : starEach [a, .Name y p'] X.env = (false, eval a X.env) :: starEach [.Name y p'] X.env := by rfl) (he2 : starEach [Expr.Name y p'] X.env = (false, eval (.Name y p') X.env) :: starEach [] X.env := by rfl)
    (hpl : (backTo pos (starEach [Expr.Name y p'] X.env)).any (·.1) = false := by rfl) : QE X C (.Call (.Name "isinstance" p) [a, .Name y p'] [] pos) (wIsi T wa) :=
  PE.imp (pe_callB call_isi hg hm (by decide +kernel) (pa_cons ha (pa_cons ht pa_nil he2) he) (by decide) (by decide) he hpl) fun σ H Q ⟨G, ρ, ts, Q', E', S, w, q, ee⟩ => ⟨G, ρ, ts, _, E', S, w, fun r ρ' ⟨p, e, hp, w⟩ v H' S' => by
    have t := S'.top List.mem_cons_self e
    have fin := q _ _ w (.bl (isTy T p)) H' (S'.pop.pushSc rfl)
    obtain ⟨k1, k2, k3, k4, k5, k6⟩ := isi_key T hT
    rw [hk]
    cases p with
    | non => rw [t.non]; exact ⟨.non, .ty T, _, _, _, rfl, .ty T, .base .non, kit_ty k1, fin⟩
    | bl b => rw [t.bl]; exact ⟨.bl b, .ty T, _, _, _, rfl, .ty T, .base (.bl b), kit_ty k2, fin⟩
    | int b => rw [t.int]; exact ⟨.int b, .ty T, _, _, _, rfl, .ty T, .base (.int b), kit_ty k3, fin⟩
    | str b => rw [t.str]; exact ⟨.str b, .ty T, _, _, _, rfl, .ty T, .base (.str b), kit_ty k4, fin⟩
    | tup l =>
      obtain ⟨a, vs, rfl, h1, _⟩ := t
      refine ⟨.ref a, .ty T, _, _, _, rfl, .ty T, ?_, kit_ty k5, fin⟩
      rcases h1 with (h1 | ⟨o, h1⟩) | ⟨o, its, n, h1, h2, _⟩
      · exact .base (.tup h1)
      · exact .fTuple h1
      · exact .kTuple h1 h2
    | lst l =>
      obtain ⟨a, vs, rfl, h1, _⟩ := t
      exact ⟨.ref a, .ty T, _, _, _, rfl, .ty T, .base (.lst h1), kit_ty k6, fin⟩
    | dic k l => exact hp.elim
    | strm => exact hp.elim, ee⟩
/-! ### calls of defs -/
abbrev WF := List PV → (AV → Prop) → (PX → Prop) → Prop
/-- a def's promise over trees -/
def spW (C : CC) (n : Nat) (w : WF) : Sp := fun vs H Q E => ∃ (G : Gh) (ps : List PV) (Q' : AV → Prop) (E' : PX → Prop), G.H0 = H ∧ saOk G.sa H ∧ (∀ l s, G.sa = some (l, s) → G.O s) ∧ (∀ a, G.O a → H a ≠ none) ∧ Reps C.K G.sa (msk G.O H) ps vs ∧ ps.length = n ∧ w ps Q' E' ∧
  (∀ r, Q' r → ∀ v H', Retn C.K G r v H' → Q v H') ∧ ∀ e, E' e → ∀ cls d H', ExR C G e cls d H' → E cls d H'
theorem spW.len {n : Nat} {w : WF} {vs : List V} {Q : VK} {E : XK} (h : spW C n w vs H Q E) : vs.length = n := by
  obtain ⟨G, ps, Q', E', _, _, _, _, h, hl, _⟩ := h
  rw [h.length, hl]
/-- f(..): the values are let go -/
def wCall (f : WF) (wr : WA) : WE := fun ρ Q E => wr ρ (fun rs ρ' => match fzAll ρ' rs with
  | some (ps, ρ2) => f ps (fun r => Q r ρ2) E
  | none => False) E
theorem OA.there (S : Sta K G ρ ts σ H) {a : Addr} (h : OA G ρ ts σ a) : H a ≠ none := fun n => Rep.ow_same S n h
theorem qe_call {CX : CXT} {k n : Nat} {f : Addr} {fd : FuncData} {ps : List Str} {wf : WF} {x : Str} {p : Pos} (F : FnOk X.prog X.w X.K X.mg X.base CX k f fd ps (spW ⟨C.K, C.mg, fun _ _ _ => False⟩ n wf)) (hn : ∀ rs ps' ρ ρ2, fzAll ρ rs = some (ps', ρ2) → True) (hr : Room k X.A) (hg : Gl X x) (hm : X.mg x = some (.ref f)) (hk : PySem.W.keepIn X.K (.ref f) = true) (hb : Binds X.K fd ps []) (hx : Passes CX X C.E0)
    (ha : QA X C (e :: es) wr) (hdb : (x == ("__debug__" : Str)) = false := by decide) (he : starEach (e :: es) X.env = (false, eval e X.env) :: starEach es X.env := by rfl) (hpl : (backTo pos (starEach es X.env)).any (·.1) = false := by rfl) :
    QE X C (.Call (.Name x p) (e :: es) [] pos) (wCall (fun qs Q E => qs.length = n ∧ wf qs Q E) wr) :=
  PE.imp (pe_call F hr hg hm hk hb .nil hx ha hdb he hpl) fun σ H Q ⟨G, ρ, ts, Q', E', S, w, q, ee⟩ => ⟨G, ρ, ts, _, E', S, w, fun rs ρ' w vs H' hl S' => by
    obtain ⟨ps, ρ2, ef, hn, w⟩ := fz_split w
    obtain ⟨h1, S2⟩ := S'.fzAll hl ef
    have R := S2.argsRep (by omega)
    have S3 := S2.dropN
    rw [List.append_nil]
    refine ⟨⟨G.sa, H', OA G ρ2 ts σ⟩, ps, _, _, rfl, S3.sk, fun l s e => .inr (S3.so l s e), fun a h => h.there S3, R, hn, w, fun r w v H2 hr => q _ _ w _ _ (S3.ret hr), fun e w cls d H2 hx => ee e w cls d H2 ?_⟩
    obtain ⟨x1, x2, A, dx, us, x3, x4, x5, x6, x7⟩ := hx
    exact ⟨S3.fr.trans x1, x2, A, dx, us, x3, x4, x5, x6, Reps.same (msk_same fun a o n e => ⟨fun z => n (.inr z), e⟩) x7⟩, ee⟩
/-! ### methods -/
theorem ty_list {v : V} {l : List PV} (t : Top K sa Hm H (.lst l) v) : tyV K "list" v H := by
  obtain ⟨a, vs, rfl, h, _⟩ := t
  exact .inl ⟨rfl, vs, SqL.of h⟩
/-- the list that a slot holds alone, at hand as a temporary -/
theorem Sta.brOw {i : Nat} {v : V} {p : PV} (S : Sta K G ρ ts σ H) (hm : (AV.br i, v) ∈ ts) (h : ρ[i]? = some (some (.ow p))) : ∃ a, v = .ref a ∧ σ[i]? = some (some (.ref a)) ∧ Obj1 K G.sa (msk (OA G ρ ts σ) H) H a p := by
  have t : σ[i]? = some (some v) := S.tmp _ hm
  obtain ⟨u, e1, a, rfl, o⟩ := S.slot i _ h
  rw [t] at e1
  cases e1
  exact ⟨a, rfl, t, o⟩
theorem fz1_br {i : Nat} {r : AV} {p : PV} {l : PV} (hf : fz1 ρ r = some (p, ρ')) (h : ρ'[i]? = some (some (.ow l))) : ρ[i]? = some (some (.ow l)) := by
  cases r with
  | fz q => cases hf; exact h
  | ow q => cases hf; exact h
  | br j =>
    simp only [fz1] at hf
    split at hf
    · cases hf; exact h
    · rename_i q e
      cases hf
      by_cases z : j = i
      · subst z
        rw [List.getElem?_set_self (List.getElem?_eq_some_iff.mp e).1] at h
        cases h
      · rw [List.getElem?_set_ne z] at h
        exact h
    · cases hf
/-- the item that was taken out, behind the change -/
theorem Rep.mutated {i : Nat} {p p' y : PV} {v : V} {a : Addr} {o : HO} (e3 : ρ[i]? = some (some (.ow p))) (hσ : σ[i]? = some (some (.ref a))) (hu : Rep K sa (msk (OA G ρ ts σ) H) y v) : Rep K sa (msk (OA G (ρ.set i (some (.ow p'))) ts σ) (upd H a o)) y v := by
  refine Rep.same (msk_same fun b o n e => ?_) hu
  have oa : OA G ρ ts σ a := .inl (.inl ⟨i, (.ow p, .ref a), ⟨e3, hσ⟩, .ow⟩)
  have nb : b ≠ a := fun z => n (z ▸ oa)
  refine ⟨fun z => n (z.imp (fun z => ?_) id), by rw [upd_ne nb]; exact e⟩
  rcases z with ⟨j, f, hs, hw⟩ | hw
  · by_cases hj : j = i
    · obtain ⟨h1, h2⟩ := hs
      obtain ⟨_, h3⟩ := hw
      rw [hj, hσ, h3] at h2
      cases h2
      exact absurd rfl nb
    · obtain ⟨h1, h2⟩ := hs
      rw [List.getElem?_set_ne (Ne.symm hj)] at h1
      exact .inl ⟨j, f, ⟨h1, h2⟩, hw⟩
  · exact .inr hw
/-- what a method of one argument does to a list that a name alone holds -/
abbrev WM := List PV → AV → En → (List PV → AV → En → Prop) → Prop
/-- o.m(e), o a name that holds a list alone: k the list, the argument, gives the new list and the result -/
def wM1 (k : List PV → PV → (List PV → PV → Prop) → Prop) (wo we : WE) : WE := fun ρ Q E => wo ρ (fun r ρ1 => ∃ i l0, r = .br i ∧ look ρ1 r = some (.lst l0) ∧ we ρ1 (fun re ρ2 => ∃ p ρ3 l, fz1 ρ2 re = some (p, ρ3) ∧ ρ3[i]? = some (some (.ow (.lst l))) ∧
  k l p fun l' res => Q (.fz res) (ρ3.set i (some (.ow (.lst l'))))) E) E
def MeP (C : CC) (k : List PV → PV → (List PV → PV → Prop) → Prop) (r : V → List V → Hp → VK → Prop) : Prop := ∀ (sa : SA) (P : Addr → Prop) (H : Hp) (a : Addr) (vs : List V) (l : List PV) (y : V) (p : PV) (Q' : List PV → PV → Prop) (Q : VK), H a = some (.lst vs) → P a → Reps C.K sa (msk P H) l vs →
  Rep C.K sa (msk P H) p y → k l p Q' → (∀ l' res vs' u, Q' l' res → Reps C.K sa (msk P H) l' vs' → Rep C.K sa (msk P H) res u → Q u (upd H a (.lst vs'))) → r (.ref a) [y] H Q
theorem qe_m1 {k : List PV → PV → (List PV → PV → Prop) → Prop} {r : V → List V → Hp → VK → Prop} {name : Str} {mid : String} {apos : Pos} {o : Expr} {wo we : WE} (hp : MeP C k r) (hk : X.K = C.K) (slot : Slot "list" name mid) (hty : typeOf (.builtin mid) = pure (.type "method_descriptor")) (hm : MtR X mid r) (ho : QE X C o wo) (he : QE X C e we)
    (hbase : attributeBase o name X.env (eval o X.env) = eval o X.env := by rfl)
    (hfew : ((backTo pos (starEach [e] X.env)).all (fun x => !x.1) && (backToKw pos (keywordEach [] X.env)).all (fun x => x.1.isSome)
      && decide (([e] : List Expr).length + ([] : List Keyword).length + (if ([] : List Keyword).isEmpty then 0 else 1) < 30)) = true := by rfl)
    (hline : (apos.endLine == pos.line) = true := by rfl) (hs : starEach [e] X.env = (false, eval e X.env) :: starEach [] X.env := by rfl) (hplain : (backTo pos (starEach [] X.env)).any (·.1) = false := by rfl) :
    QE X C (.Call (.Attribute o name apos) [e] [] pos) (wM1 k wo we) :=
  PE.imp (pe_bm PySem.F.plainAttrs_list slot hty hm ho (pa_cons he pa_nil hs) hbase hfew hline hs hplain) fun σ H Q ⟨G, ρ, ts, Q', E', S, w, q, ee⟩ => ⟨G, ρ, ts, _, E', S, w, fun r0 ρ1 ⟨i, l0, er, el, w⟩ x H1 S1 => by
    refine ⟨hk ▸ ty_list (S1.top List.mem_cons_self el), G, ρ1, (r0, x) :: ts, _, E', S1, w, fun re ρ2 ⟨p, ρ3, l, ef, e3, w⟩ y H2 S2 => ?_, ee⟩
    subst er
    have S3 := S2.fz1 ef
    obtain ⟨a, rfl, hσ, vs, ha, hr⟩ := S3.brOw mem1 e3
    refine hp G.sa _ H2 a vs l y p _ Q ha (.inl (.inl ⟨i, (.ow (.lst l), .ref a), ⟨e3, hσ⟩, .ow⟩)) hr (S3.tmp _ List.mem_cons_self) w fun l' res vs' u w hv hu => ?_
    have S4 := S3.mut (o := .lst vs') e3 hσ (p' := .lst l') ⟨vs', upd_same, hv⟩
    exact q _ _ w _ _ (S4.pop.pop.push (Rep.popped (Rep.popped (Rep.mutated e3 hσ hu)))), ee⟩
def kAppend : List PV → PV → (List PV → PV → Prop) → Prop := fun l p Q => l.length < sizeLine ∧ Q (l ++ [p]) .non
theorem me_append : MeP C kAppend rAppend := fun sa P H a vs l y p Q' Q ha hP hr hy ⟨hz, w⟩ q => ⟨a, vs, y, rfl, rfl, ha, by rw [hr.length]; exact hz, q _ _ _ _ w (Reps.append hr (Reps.cons hy Reps.nil)) (by unfold Rep; rfl)⟩
def kExtend : List PV → PV → (List PV → PV → Prop) → Prop := fun l p Q => ∃ m, p = .lst m ∧ l.length + m.length ≤ sizeLine ∧ Q (l ++ m) .non
theorem me_extend : MeP C kExtend rExtend := fun sa P H a vs l y p Q' Q ha hP hr hy ⟨m, em, hz, w⟩ q => by
  subst em
  unfold Rep at hy
  obtain ⟨b, us, rfl, hb, hu⟩ := hy
  exact ⟨a, b, vs, us, rfl, rfl, ha, msk_top _ _ hb, by rw [hr.length, hu.length]; exact hz, q _ _ _ _ w (Reps.append hr hu) (by unfold Rep; rfl)⟩
theorem Reps.eraseIdx : ∀ {ps : List PV} {vs : List V} (i : Nat), Reps K sa H ps vs → Reps K sa H (ps.eraseIdx i) (vs.eraseIdx i)
  | [], _, _, h => by unfold Reps at h; subst h; exact Reps.nil
  | q :: ps, _, 0, h => by
    unfold Reps at h
    obtain ⟨u, r, rfl, h1, h2⟩ := h
    exact h2
  | q :: ps, _, i + 1, h => by
    unfold Reps at h
    obtain ⟨u, r, rfl, h1, h2⟩ := h
    exact Reps.cons h1 (Reps.eraseIdx i h2)
/-- pop(k), k an index from 0 on -/
def kPopAt : List PV → PV → (List PV → PV → Prop) → Prop := fun l p Q => ∃ (k : Nat) (y : PV), p = .int (k : Nat) ∧ l[k]? = some y ∧ l.length ≤ sizeLine ∧ Q (l.eraseIdx k) y
theorem me_popAt : MeP C kPopAt rPopAt := fun sa P H a vs l y p Q' Q ha hP hr hy ⟨k, z, ep, ek, hz, w⟩ q => by
  subst ep
  unfold Rep at hy
  subst hy
  obtain ⟨u, e1, e2⟩ := hr.get ek
  have hl := hr.length
  have hk := (List.getElem?_eq_some_iff.mp e1).1
  rw [sizeLine_eq] at hz
  exact ⟨a, vs, k, k, u, rfl, rfl, ha, by omega, by omega, PySem.StrLaws.seqIndex_nonneg (by omega) (by omega), e1, q _ _ _ _ w (hr.eraseIdx k) e2⟩
/-- o.pop() -/
def wPop (wo : WE) : WE := fun ρ Q E => wo ρ (fun r ρ1 => ∃ i l y, r = .br i ∧ ρ1[i]? = some (some (.ow (.lst l))) ∧ l[l.length - 1]? = some y ∧ Q (.fz y) (ρ1.set i (some (.ow (.lst l.dropLast))))) E
theorem Reps.dropLast {ps : List PV} {vs : List V} (h : Reps K sa H ps vs) : Reps K sa H ps.dropLast vs.dropLast := by
  rw [List.dropLast_eq_take, List.dropLast_eq_take, h.length]
  exact h.take _
theorem qe_pop {apos : Pos} {o : Expr} {wo : WE} (hk : X.K = C.K) (ho : QE X C o wo) (hbase : attributeBase o "pop" X.env (eval o X.env) = eval o X.env := by rfl) (hline : (apos.endLine == pos.line) = true := by rfl) :
    QE X C (.Call (.Attribute o "pop" apos) [] [] pos) (wPop wo) :=
  PE.imp (pe_bm0 PySem.F.plainAttrs_list PySem.F.slot_list_pop PySem.F.type_list_pop mt_pop ho hbase hline) fun σ H Q ⟨G, ρ, ts, Q', E', S, w, q, ee⟩ => ⟨G, ρ, ts, _, E', S, w, fun r0 ρ1 ⟨i, l, y, er, e3, el, w⟩ x H1 S1 => by
    subst er
    obtain ⟨a, rfl, hσ, vs, ha, hr⟩ := S1.brOw List.mem_cons_self e3
    have hl := hr.length
    obtain ⟨u, e1, e2⟩ := hr.get el
    refine ⟨hk ▸ .inl ⟨rfl, vs, SqL.of ha⟩, a, vs, u, rfl, rfl, ha, by rw [hl]; exact e1, ?_⟩
    have S4 := S1.mut (o := .lst vs.dropLast) e3 hσ (p' := .lst l.dropLast) ⟨_, upd_same, hr.dropLast⟩
    exact q _ _ w _ _ (S4.pop.push (Rep.popped (Rep.mutated e3 hσ e2))), ee⟩
end SyP
set_option autoImplicit false
/-! Pure words 6: targets, statements, loops, comprehensions. -/
namespace SyP
open PySem PySem.Spec PyProof.Rows L2 Sy
variable {K : PySem.W.Frag} {sa : SA} {H H' Hm : Hp} {G : Gh} {ρ ρ' : En} {ts ts' : Ts} {σ σ' : L2.St} {C : CC} {X : Cx} {a b c : Expr} {pos p2 : Pos} {wa wb wc w : WE} {e : Expr} {es : List Expr} {wr : WA}
/-- a temporary is stored at a slot that no other temporary looks at -/
theorem Sta.put {i : Nat} {r : AV} {v : V} (S : Sta K G ρ ((r, v) :: ts) σ H) (nr : ∀ j, r ≠ .br j) (nb : ∀ e ∈ ts, e.1 ≠ .br i) (li : i < ρ.length) : Sta K G (ρ.set i (some r)) ts (σ.set i (some v)) H := by
  have lσ : i < σ.length := by rw [← S.len]; exact li
  have sl : ∀ {j : Nat} {e : AV × V}, SlAt (ρ.set i (some r)) (σ.set i (some v)) j e → (j = i ∧ e = (r, v)) ∨ (j ≠ i ∧ SlAt ρ σ j e) := fun {j e} q => by
    by_cases z : j = i
    · subst z
      obtain ⟨e1, e2⟩ := q.set_eq
      obtain ⟨e3, e4⟩ := e
      cases e1
      cases e2
      exact .inl ⟨rfl, rfl⟩
    · exact .inr ⟨z, q.set_ne z⟩
  have eq : ∀ b, Owns (ρ.set i (some r)) ts (σ.set i (some v)) b → Owns ρ ((r, v) :: ts) σ b := fun b z => by
    rcases z with ⟨j, e, hs, z⟩ | ⟨e, he, z⟩
    · rcases sl hs with ⟨_, rfl⟩ | ⟨_, hs⟩
      · exact .inr ⟨_, List.mem_cons_self, z⟩
      · exact .inl ⟨j, e, hs, z⟩
    · exact .inr ⟨e, List.mem_cons_of_mem _ he, z⟩
  have hd := List.pairwise_cons.mp S.dT
  refine S.gen (by rw [List.length_set, List.length_set]; exact S.len) (fun b o _ _ e => e) S.sk (fun b z nb => absurd (eq b z) nb) (fun b u nb e z => nb (.inl (eq b z))) (fun sm j q e => ?_) (fun sm e he => ?_) (fun j k e f b hs hf x y => ?_) (fun j e f b hs hf x y => ?_) hd.2 (fun e he j ej => ?_)
  · by_cases z : j = i
    · subst z
      rw [List.getElem?_set_self li] at e
      cases e
      refine ⟨_, List.getElem?_set_self lσ, ?_⟩
      have t := S.tmp _ List.mem_cons_self
      cases r with
      | fz p => exact Rep.same sm t
      | ow p =>
        obtain ⟨b, e, o⟩ := t
        exact ⟨b, e, o.same sm fun o e => e⟩
      | br j => exact absurd rfl (nr j)
    · rw [List.getElem?_set_ne (Ne.symm z)] at e
      obtain ⟨u, e1, e2⟩ := S.slot j q e
      refine ⟨u, by rw [List.getElem?_set_ne (Ne.symm z)]; exact e1, ?_⟩
      cases q with
      | fz p => exact Rep.same sm e2
      | ow p =>
        obtain ⟨b, rfl, o⟩ := e2
        exact ⟨b, rfl, o.same sm fun o e => e⟩
      | br j => exact e2
  · have t := S.tmp e (List.mem_cons_of_mem _ he)
    have nbe := nb e he
    obtain ⟨q, u⟩ := e
    cases q with
    | fz p => exact Rep.same sm t
    | ow p =>
      obtain ⟨b, e, o⟩ := t
      exact ⟨b, e, o.same sm fun o e => e⟩
    | br j =>
      have t : σ[j]? = some (some u) := t
      show (σ.set i (some v))[j]? = _
      rw [List.getElem?_set_ne (fun z => nbe (by rw [z]))]
      exact t
  · rcases sl hs with ⟨z1, rfl⟩ | ⟨z1, hs⟩
    · rcases sl hf with ⟨z2, rfl⟩ | ⟨z2, hf⟩
      · rw [z1, z2]
      · exact (S.dX k f (r, v) b hf List.mem_cons_self y x).elim
    · rcases sl hf with ⟨z2, rfl⟩ | ⟨z2, hf⟩
      · exact (S.dX j e (r, v) b hs List.mem_cons_self x y).elim
      · exact S.dS j k e f b hs hf x y
  · rcases sl hs with ⟨z1, rfl⟩ | ⟨z1, hs⟩
    · exact hd.1 f hf b x y
    · exact S.dX j e f b hs (List.mem_cons_of_mem _ hf) x y
  · obtain ⟨q, hq⟩ := S.brn e (List.mem_cons_of_mem _ he) j ej
    by_cases z : j = i
    · subst z
      exact ⟨_, List.getElem?_set_self li⟩
    · exact ⟨q, by rw [List.getElem?_set_ne (Ne.symm z)]; exact hq⟩
/-- fewer slots known -/
theorem Sta.less {ρ' : En} {σ' : L2.St} (S : Sta K G ρ ts σ H) (hl : ρ'.length = σ'.length) (h : ∀ (i : Nat) (r : AV), ρ'[i]? = some (some r) → ρ[i]? = some (some r) ∧ σ'[i]? = σ[i]?) (nb : ∀ e ∈ ts, ∀ i, e.1 = .br i → (∃ r, ρ'[i]? = some (some r)) ∧ σ'[i]? = σ[i]?) : Sta K G ρ' ts σ' H := by
  have sl : ∀ {j : Nat} {e : AV × V}, SlAt ρ' σ' j e → SlAt ρ σ j e := fun {j e} q => by
    obtain ⟨h1, h2⟩ := h j e.1 q.1
    exact ⟨h1, by rw [← h2]; exact q.2⟩
  have eq : ∀ b, Owns ρ' ts σ' b → Owns ρ ts σ b := fun b z => by
    rcases z with ⟨j, e, hs, z⟩ | z
    · exact .inl ⟨j, e, sl hs, z⟩
    · exact .inr z
  refine S.gen hl (fun b o _ _ e => e) S.sk (fun b z nb => absurd (eq b z) nb) (fun b u nb e z => nb (.inl (eq b z))) (fun sm j q e => ?_) (fun sm e he => ?_) (fun j k e f b hs hf x y => S.dS j k e f b (sl hs) (sl hf) x y) (fun j e f b hs hf x y => S.dX j e f b (sl hs) hf x y) S.dT (fun e he j ej => (nb e he j ej).1)
  · obtain ⟨h1, h2⟩ := h j q e
    obtain ⟨u, e1, e2⟩ := S.slot j q h1
    refine ⟨u, by rw [h2]; exact e1, ?_⟩
    cases q with
    | fz p => exact Rep.same sm e2
    | ow p =>
      obtain ⟨b, rfl, o⟩ := e2
      exact ⟨b, rfl, o.same sm fun o e => e⟩
    | br j => exact e2
  · have t := S.tmp e he
    have nbe := nb e he
    obtain ⟨q, u⟩ := e
    cases q with
    | fz p => exact Rep.same sm t
    | ow p =>
      obtain ⟨b, e, o⟩ := t
      exact ⟨b, e, o.same sm fun o e => e⟩
    | br j =>
      have t : σ[j]? = some (some u) := t
      show σ'[j]? = _
      rw [(nbe j rfl).2]
      exact t
/-! ### targets -/
abbrev WTg := PV → En → (En → Prop) → Prop
def NoBr (is : List Nat) (ts : Ts) : Prop := ∀ e ∈ ts, ∀ i ∈ is, e.1 ≠ .br i
def tPG (C : CC) (is : List Nat) (wt : WTg) : TG := fun v σ H Q => ∃ G ρ ts p Q', NoBr is ts ∧ Sta C.K G ρ ((.fz p, v) :: ts) σ H ∧ wt p ρ Q' ∧ ∀ ρ', Q' ρ' → ∀ σ' H', Sta C.K G ρ' ts σ' H' → σ'.length = σ.length → (∀ j, j ∉ is → σ'[j]? = σ[j]?) → Q σ' H'
def QG (X : Cx) (C : CC) (tg : Expr) (is : List Nat) (wt : WTg) : Prop := PG X tg (tPG C is wt)
theorem PG.imp {tg : Expr} {t t' : TG} (h : PG X tg t) (i : ∀ v σ H Q, t' v σ H Q → t v σ H Q) : PG X tg t' := ⟨fun pins s σ H v u Q I r q => h.run pins s σ H v u Q I r (i v σ H Q q)⟩
def wgN (i : Nat) : WTg := fun p ρ Q => i < ρ.length ∧ Q (ρ.set i (some (.fz p)))
theorem qg_name {i : Nat} {x : Str} (h : PG X (.Name x pos) (gName i)) : QG X C (.Name x pos) [i] (wgN i) :=
  PG.imp h fun v σ H Q ⟨G, ρ, ts, p, Q', nb, S, w, q⟩ => q _ w.2 _ _ (S.put (fun _ z => nomatch z) (fun e he => nb e he i (by simp)) w.1) (by rw [List.length_set]) fun j hj => by
    rw [List.getElem?_set_ne (fun z => hj (by simp [z]))]
abbrev WTgs := List PV → En → (En → Prop) → Prop
def tPGs (C : CC) (is : List Nat) (wt : WTgs) : TGs := fun vs σ H Q => ∃ G ρ ts ps Q', NoBr is ts ∧ vs.length = ps.length ∧ Sta C.K G ρ (((ps.map AV.fz).zip vs) ++ ts) σ H ∧ wt ps ρ Q' ∧ ∀ ρ', Q' ρ' → ∀ σ' H', Sta C.K G ρ' ts σ' H' → σ'.length = σ.length → (∀ j, j ∉ is → σ'[j]? = σ[j]?) → Q σ' H'
def QGs (X : Cx) (C : CC) (tg : List Expr) (is : List Nat) (wt : WTgs) : Prop := PGs X tg (tPGs C is wt)
theorem PGs.imp {tg : List Expr} {t t' : TGs} (h : PGs X tg t) (i : ∀ v σ H Q, t' v σ H Q → t v σ H Q) : PGs X tg t' := ⟨fun pins s σ H v u Q I r q => h.run pins s σ H v u Q I r (i v σ H Q q)⟩
def wgNil : WTgs := fun ps ρ Q => ps = [] ∧ Q ρ
def wgCons (t : WTg) (u : WTgs) : WTgs := fun ps ρ Q => ∃ p r, ps = p :: r ∧ t p ρ fun ρ' => u r ρ' Q
theorem qgs_nil : QGs X C [] [] wgNil := PGs.imp pgs_nil fun vs σ H Q ⟨G, ρ, ts, ps, Q', nb, hl, S, w, q⟩ => by
  obtain ⟨rfl, w⟩ := w
  have : vs = [] := List.eq_nil_of_length_eq_zero hl
  subst this
  exact ⟨rfl, q _ w _ _ S rfl fun _ _ => rfl⟩
theorem qgs_cons {e : Expr} {es : List Expr} {is js : List Nat} {t : WTg} {u : WTgs} (h1 : QG X C e is t) (h2 : QGs X C es js u) (hs : (assignEach (e :: es) X.env).map (·.2) = assign e X.env :: (assignEach es X.env).map (·.2) := by rfl) : QGs X C (e :: es) (is ++ js) (wgCons t u) :=
  PGs.imp (pgs_cons h1 h2 hs) fun vs σ H Q ⟨G, ρ, ts, ps, Q', nb, hl, S, w, q⟩ => by
    obtain ⟨p, r, rfl, w⟩ := w
    match vs, hl with
    | v :: vs, hl =>
      have hl : vs.length = r.length := Nat.succ.inj hl
      refine ⟨v, vs, rfl, G, ρ, _, p, _, fun e he i hi => ?_, S, w, fun ρ' w σ' H' S' l1 k1 => ⟨G, ρ', ts, r, Q', fun e he i hi => nb e he i (List.mem_append_right _ hi), hl, S', w, fun ρ2 w2 σ2 H2 S2 l2 k2 => q _ w2 _ _ S2 (l2.trans l1) fun j hj => ?_⟩⟩
      · rcases List.mem_append.mp he with he | he
        · obtain ⟨x, y⟩ := e
          obtain ⟨z, _, rfl⟩ := List.mem_map.mp (List.of_mem_zip he).1
          exact fun z => nomatch z
        · exact nb e he i (List.mem_append_left _ hi)
      · rw [k2 j (fun z => hj (List.mem_append_right _ z)), k1 j (fun z => hj (List.mem_append_left _ z))]
/-- a, b = a tuple -/
def wgTup (n : Nat) (u : WTgs) : WTg := fun p ρ Q => ∃ ps, p = .tup ps ∧ ps.length = n ∧ u ps ρ Q
theorem Sta.spread {a : Addr} {vs : List V} {ps : List PV} : ∀ {ps : List PV} {vs : List V} {ts : Ts}, Sta K G ρ ts σ H → Reps K G.sa (msk (OA G ρ ts σ) H) ps vs → Sta K G ρ (((ps.map AV.fz).zip vs) ++ ts) σ H
  | [], _, _, S, h => S
  | p :: ps, vs, ts, S, h => by
    unfold Reps at h
    obtain ⟨v, r, rfl, h1, h2⟩ := h
    have S1 := Sta.spread (a := a) (vs := vs) (ps := ps) S h2
    refine S1.push (Rep.same (msk_same fun b o n e => ⟨fun z => n (z.imp (fun z => ?_) id), e⟩) h1)
    rcases z with z | ⟨f, hf, z⟩
    · exact .inl z
    · rcases List.mem_append.mp hf with hf | hf
      · obtain ⟨x, y⟩ := f
        obtain ⟨q, _, rfl⟩ := List.mem_map.mp (List.of_mem_zip hf).1
        exact z.not_fz.elim
      · exact .inr ⟨f, hf, z⟩
theorem qg_tup {es : List Expr} {k n : Nat} {is : List Nat} {u : WTgs} (hk : X.K = C.K) (hc : X.calm = true) (h : QGs X C es is u) (hn : (assignEach es X.env).length = n := by rfl) (hst : (assignEach es X.env).findIdx? (·.1) = none := by rfl) : QG X C (.Tuple es k pos) is (wgTup n u) :=
  PG.imp (pg_tup hc h hn hst) fun v σ H Q ⟨G, ρ, ts, p, Q', nb, S, w, q⟩ => by
    obtain ⟨ps, rfl, hl, w⟩ := w
    have t := S.tmp _ List.mem_cons_self
    unfold Tmp Ent Rep at t
    obtain ⟨a, vs, rfl, h1, h2⟩ := t
    have hv := h2.length
    exact ⟨a, vs, rfl, hk ▸ SqT.same msk_top h1, by omega, G, ρ, ts, ps, Q', nb, hv, S.pop.spread (a := a) (vs := vs) (ps := ps) (Reps.popped h2), w, q⟩
/-! ### statements -/
structure PD where
  nx : En → Prop
  rt : AV → Prop
  bk : En → Prop
  ct : En → Prop
  ex : PX → Prop
abbrev WS := PD → En → Prop
def FzT (ts : Ts) : Prop := ∀ e ∈ ts, ∃ p, e.1 = AV.fz p
theorem FzT.noBr {is : List Nat} (h : FzT ts) : NoBr is ts := fun e he i _ z => by
  obtain ⟨p, hp⟩ := h e he
  rw [hp] at z
  cases z
structure DOk (C : CC) (G : Gh) (ts : Ts) (P : PD) (D : Ends) : Prop where
  nx : ∀ ρ, P.nx ρ → ∀ σ H, Sta C.K G ρ ts σ H → D.nx σ H
  rt : ∀ r, P.rt r → ∀ v H, Retn C.K G r v H → D.rt v H
  bk : ∀ ρ, P.bk ρ → ∀ σ H, Sta C.K G ρ ts σ H → D.bk σ H
  ct : ∀ ρ, P.ct ρ → ∀ σ H, Sta C.K G ρ ts σ H → D.ct σ H
  ex : EEx C G P.ex
def tPS (C : CC) (w : WS) : TS := fun D σ H => ∃ G ρ ts P, FzT ts ∧ Sta C.K G ρ ts σ H ∧ w P ρ ∧ DOk C G ts P D
def QS (X : Cx) (C : CC) (s : Stmt) (w : WS) : Prop := PS X s (tPS C w)
def QSs (X : Cx) (C : CC) (s : List Stmt) (w : WS) : Prop := PSs X s (tPS C w)
theorem PS.imp {s : Stmt} {t t' : TS} (h : PS X s t) (i : ∀ D σ H, t' D σ H → t D σ H) : PS X s t' := ⟨fun pins s σ H D I q => h.run pins s σ H D I (i D σ H q)⟩
theorem PSs.imp {s : List Stmt} {t t' : TS} (h : PSs X s t) (i : ∀ D σ H, t' D σ H → t D σ H) : PSs X s t' := ⟨fun pins s σ H D I q => h.run pins s σ H D I (i D σ H q)⟩
variable {st : Stmt} {sts : List Stmt} {ws us : WS}
def wNext : WS := fun P ρ => P.nx ρ
def wSeq (w u : WS) : WS := fun P ρ => w { P with nx := u P } ρ
theorem qss_nil : QSs X C [] wNext := PSs.imp pss_nil fun D σ H ⟨G, ρ, ts, P, ft, S, w, d⟩ => d.nx _ w _ _ S
theorem qss_cons (h1 : QS X C st ws) (h2 : QSs X C sts us) : QSs X C (st :: sts) (wSeq ws us) :=
  PSs.imp (pss_cons h1 h2) fun D σ H ⟨G, ρ, ts, P, ft, S, w, d⟩ => ⟨G, ρ, ts, _, ft, S, w, fun ρ' w σ' H' S' => ⟨G, ρ', ts, P, ft, S', w, d⟩, d.rt, d.bk, d.ct, d.ex⟩
theorem qss_one (h1 : QS X C st ws) : QSs X C [st] ws := pss_one h1
/-- a slot is forgotten, a held one let go: no step of the program -/
theorem qss_forget {i : Nat} (h : QSs X C sts us) : QSs X C sts (fun P ρ => us P (ρ.set i none)) :=
  PSs.imp h fun D σ H ⟨G, ρ, ts, P, ft, S, w, d⟩ => ⟨G, ρ.set i none, ts, P, ft, S.less (by rw [List.length_set]; exact S.len) (fun j r e => ⟨by
    by_cases z : i = j
    · subst z
      by_cases hl : i < ρ.length
      · rw [List.getElem?_set_self hl] at e
        cases e
      · rw [List.getElem?_eq_none (by rw [List.length_set]; omega)] at e
        cases e
    · rwa [List.getElem?_set_ne z] at e, rfl⟩) (fun e he j ej => by
      obtain ⟨p, hp⟩ := ft e he
      rw [hp] at ej
      cases ej), w, d⟩
def frzS (ρ : En) (i : Nat) : En := match ρ[i]? with
  | some (some (.ow p)) => ρ.set i (some (.fz p))
  | _ => ρ
theorem qss_frz {i : Nat} (h : QSs X C sts us) : QSs X C sts (fun P ρ => us P (frzS ρ i)) :=
  PSs.imp h fun D σ H ⟨G, ρ, ts, P, ft, S, w, d⟩ => ⟨G, frzS ρ i, ts, P, ft, by
    unfold frzS
    split
    · rename_i p e
      exact S.frzSlot e
    · exact S, w, d⟩
/-- name = e -/
def wKeep (ρ : En) (r : AV) (k : AV → En → Prop) : Prop := match keepA ρ r with
  | some (r', ρ') => k r' ρ'
  | none => False
def wSet (i : Nat) (we : WE) : WS := fun P ρ => we ρ (fun r ρ1 => wKeep ρ1 r fun r' ρ2 => i < ρ2.length ∧ P.nx (ρ2.set i (some r'))) P.ex
theorem keepA_nb {r r' : AV} (h : keepA ρ r = some (r', ρ')) : ∀ j, r' ≠ .br j := fun j z => by
  subst z
  cases r with
  | fz p => cases h
  | ow p => cases h
  | br k =>
    simp only [keepA] at h
    split at h <;> cases h
theorem tSet_of {i : Nat} {we : WE} {D : Ends} {σ : L2.St} {H : Hp} (h : tPS C (wSet i we) D σ H) : tAsg (tP C we) (gName i) D σ H := by
  obtain ⟨G, ρ, ts, P, ft, S, w, d⟩ := h
  refine ⟨G, ρ, ts, _, P.ex, S, w, fun r ρ1 w v H1 S1 => ?_, d.ex⟩
  unfold wKeep at w
  split at w
  · rename_i r' ρ2 e
    exact d.nx _ w.2 _ _ ((S1.keepA e).put (keepA_nb e) (fun e he => ft.noBr e he i (List.mem_singleton.mpr rfl)) w.1)
  · exact w.elim
theorem qs_set {i : Nat} {x : Str} {we : WE} {pos' : Pos} (hN : X.N.Nodup) (hi : X.N[i]? = some x) (hx : Loc X.env.scope x) (he : QE X C e we) (hs : swapsWith e (some (.Name x pos')) pos.line X.env = pure false := by rfl) (hf : X.fn x = true ∨ X.env.scope.names.lookup x = some .local := by first | exact .inl rfl | exact .inr rfl | assumption) :
    QS X C (.Assign [.Name x pos'] e pos) (wSet i we) := PS.imp (ps_set hN hi hx he hs hf) fun _ _ _ h => tSet_of h
/-- a, b = e -/
def wAsg (we : WE) (wt : WTg) : WS := fun P ρ => we ρ (fun r ρ1 => match fz1 ρ1 r with
  | some (p, ρ2) => wt p ρ2 P.nx
  | none => False) P.ex
theorem qs_asg {tg : Expr} {we : WE} {is : List Nat} {wt : WTg} (he : QE X C e we) (hg : QG X C tg is wt) (hs : swapsWithSole [tg] e pos.line X.env = pure false := by rfl) (hw : swappedStores [tg] e X.env = pure none := by rfl) (h1 : (assignEach [tg] X.env).map (·.2) = [assign tg X.env] := by rfl) : QS X C (.Assign [tg] e pos) (wAsg we wt) :=
  PS.imp (ps_asg he hg hs hw h1) fun D σ H ⟨G, ρ, ts, P, ft, S, w, d⟩ => ⟨G, ρ, ts, _, P.ex, S, w, fun r ρ1 w v H1 S1 => by
    split at w
    · rename_i p ρ2 ef
      exact ⟨G, ρ2, ts, p, P.nx, ft.noBr, S1.fz1 ef, w, fun ρ' w σ' H' S' _ _ => d.nx _ w _ _ S'⟩
    · exact w.elim, d.ex⟩
/-- what is returned -/
def retA (ρ : En) : AV → Option AV
  | .fz p => some (.fz p)
  | .ow p => some (.ow p)
  | .br i => match ρ[i]? with
    | some (some (.fz p)) => some (.fz p)
    | some (some (.ow p)) => some (.ow p)
    | _ => none
def wRet (we : WE) : WS := fun P ρ => we ρ (fun r ρ1 => match retA ρ1 r with
  | some r' => P.rt r'
  | none => False) P.ex
theorem Sta.retn {r r' : AV} {v : V} (S : Sta K G ρ ((r, v) :: ts) σ H) (h : retA ρ r = some r') : Retn K G r' v H := by
  have fzc : ∀ {p : PV}, Rep K G.sa (msk (OA G ρ ((r, v) :: ts) σ) H) p v → Retn K G (.fz p) v H := fun {p} h => ⟨S.fr, S.sk, Rep.same (msk_same fun a o n e => ⟨fun z => n (.inr z), e⟩) h⟩
  have owc : ∀ {p : PV} {a : Addr}, v = .ref a → Owns ρ ((r, v) :: ts) σ a → Obj1 K G.sa (msk (OA G ρ ((r, v) :: ts) σ) H) H a p → Retn K G (.ow p) v H := fun {p a} e ho o =>
    ⟨S.fr, S.sk, a, e, S.new a ho, o.same (msk_same fun b o n e => ⟨fun z => n (z.elim (fun z => .inl (z ▸ ho)) .inr), e⟩) fun o e => e⟩
  have t := S.tmp _ List.mem_cons_self
  cases r with
  | fz p => cases h; exact fzc t
  | ow p =>
    cases h
    obtain ⟨a, e, o⟩ := t
    obtain rfl : v = .ref a := e
    exact owc rfl (.inr ⟨_, List.mem_cons_self, .ow⟩) o
  | br i =>
    have t : σ[i]? = some (some v) := t
    simp only [retA] at h
    split at h
    · rename_i p e
      cases h
      obtain ⟨u, e1, e2⟩ := S.slot i _ e
      rw [t] at e1
      cases e1
      exact fzc e2
    · rename_i p e
      cases h
      obtain ⟨u, e1, a, rfl, o⟩ := S.slot i _ e
      rw [t] at e1
      cases e1
      exact owc rfl (.inl ⟨i, (.ow p, .ref a), ⟨e, t⟩, .ow⟩) o
    · cases h
theorem qs_ret {we : WE} (he : QE X C e we) : QS X C (.Return (some e) pos) (wRet we) :=
  PS.imp (ps_ret he) fun D σ H ⟨G, ρ, ts, P, ft, S, w, d⟩ => ⟨G, ρ, ts, _, P.ex, S, w, fun r ρ1 w v H1 S1 => by
    split at w
    · rename_i r' e
      exact d.rt _ w _ _ (S1.retn e)
    · exact w.elim, d.ex⟩
def wRetN : WS := fun P _ => P.rt (.fz .non)
theorem qs_retN : QS X C (.Return none pos) wRetN := PS.imp ps_retN fun D σ H ⟨G, ρ, ts, P, ft, S, w, d⟩ => d.rt _ w _ _ ⟨S.fr, S.sk, by unfold Rep; rfl⟩
def wExpr (we : WE) : WS := fun P ρ => we ρ (fun _ ρ1 => P.nx ρ1) P.ex
theorem qs_expr {we : WE} (he : QE X C e we) (hs : swapsWith e none pos.line X.env = pure false := by rfl) : QS X C (.Expr e pos) (wExpr we) :=
  PS.imp (ps_expr he hs) fun D σ H ⟨G, ρ, ts, P, ft, S, w, d⟩ => ⟨G, ρ, ts, _, P.ex, S, w, fun r ρ1 w v H1 S1 => d.nx _ w _ _ S1.pop, d.ex⟩
def wIfS (t : WT) (w u : WS) : WS := fun P ρ => t ρ (fun b ρ1 => if b = true then w P ρ1 else u P ρ1) P.ex
theorem qs_if {t : WT} {sa' sb : List Stmt} (hc : QT X C c t) (ha : QSs X C sa' ws) (hb : QSs X C sb us) : QS X C (.If c sa' sb pos) (wIfS t ws us) :=
  PS.imp (ps_if hc ha hb) fun D σ H ⟨G, ρ, ts, P, ft, S, w, d⟩ => ⟨G, ρ, ts, _, P.ex, S, w, fun k ρ1 w H1 S1 => by
    cases k with
    | true => rw [if_pos rfl] at w ⊢; exact ⟨G, ρ1, ts, P, ft, S1, w, d⟩
    | false => rw [if_neg (by decide)] at w ⊢; exact ⟨G, ρ1, ts, P, ft, S1, w, d⟩, d.ex⟩
theorem qs_pass : QS X C (.Pass pos) wNext := PS.imp ps_pass fun D σ H ⟨G, ρ, ts, P, ft, S, w, d⟩ => d.nx _ w _ _ S
def wBreak : WS := fun P ρ => P.bk ρ
def wCont : WS := fun P ρ => P.ct ρ
theorem qs_break : QS X C (.Break pos) wBreak := PS.imp ps_break fun D σ H ⟨G, ρ, ts, P, ft, S, w, d⟩ => d.bk _ w _ _ S
theorem qs_continue : QS X C (.Continue pos) wCont := PS.imp ps_continue fun D σ H ⟨G, ρ, ts, P, ft, S, w, d⟩ => d.ct _ w _ _ S
/-! ### what is walked -/
structure ItOk (K : PySem.W.Frag) (J : It) (us : Ts) (items : List PV) : Prop where
  fz : FzT us
  go : ∀ i G ρ ts σ H, i < items.length → Sta K G ρ (us ++ ts) σ H → J.go i H
  stop : ∀ G ρ ts σ H, Sta K G ρ (us ++ ts) σ H → J.stop items.length H
  yld : ∀ i G ρ ts σ H x H', i < items.length → Sta K G ρ (us ++ ts) σ H → J.yld i H x H' → ∃ p, items[i]? = some p ∧ Sta K G ρ ((.fz p, x) :: (us ++ ts)) σ H'
abbrev WI := En → (List PV → En → Prop) → (PX → Prop) → Prop
def tPI (C : CC) (w : WI) : TI := fun σ H R => ∃ G ρ ts Q' E', Sta C.K G ρ ts σ H ∧ w ρ Q' E' ∧ (∀ items ρ', Q' items ρ' → ∀ J us H', Sta C.K G ρ' (us ++ ts) σ H' → ItOk C.K J us items → R J H') ∧ EEx C G E'
def QI (X : Cx) (C : CC) (tg e : Expr) (w : WI) : Prop := PI X tg e (tPI C w)
theorem PI.imp {tg e : Expr} {t t' : TI} (h : PI X tg e t) (i : ∀ σ H R, t' σ H R → t σ H R) : PI X tg e t' := ⟨fun pins s σ H R I q => h.run pins s σ H R I (i σ H R q)⟩
theorem FzT.one {p : PV} {v : V} : FzT [(.fz p, v)] := fun e he => by
  rw [List.mem_singleton.mp he]
  exact ⟨_, rfl⟩
theorem FzT.nil : FzT [] := fun e he => nomatch he
theorem it_list {a : Addr} {l : List PV} : ItOk K (Itl K a) [(.fz (.lst l), .ref a)] l where
  fz := FzT.one
  go := fun i G ρ ts σ H hi S => by
    obtain ⟨b, vs, e, h1, h2⟩ := S.top (r := .fz (.lst l)) List.mem_cons_self rfl
    cases e
    have hl := h2.length
    exact walk_list.goes i H (by omega) (SqL.of h1)
  stop := fun G ρ ts σ H S => by
    obtain ⟨b, vs, e, h1, h2⟩ := S.top (r := .fz (.lst l)) List.mem_cons_self rfl
    cases e
    rw [← h2.length]
    exact walk_list.stops H (SqL.of h1)
  yld := fun i G ρ ts σ H x H' hi S y => by
    obtain ⟨b, vs, e, h1, h2⟩ := S.top (r := .fz (.lst l)) List.mem_cons_self rfl
    cases e
    have hl := h2.length
    obtain ⟨rfl, e⟩ := walk_list.yields i H x H' (by omega) (SqL.of h1) y
    obtain ⟨p, e1, e2⟩ := h2.get' e
    exact ⟨p, e1, S.push e2⟩
theorem it_tup {a : Addr} {l : List PV} : ItOk K (Itt K a) [(.fz (.tup l), .ref a)] l where
  fz := FzT.one
  go := fun i G ρ ts σ H hi S => by
    obtain ⟨b, vs, e, h1, h2⟩ := S.top (r := .fz (.tup l)) List.mem_cons_self rfl
    cases e
    have hl := h2.length
    exact walk_tup.goes i H (by omega) h1
  stop := fun G ρ ts σ H S => by
    obtain ⟨b, vs, e, h1, h2⟩ := S.top (r := .fz (.tup l)) List.mem_cons_self rfl
    cases e
    rw [← h2.length]
    exact walk_tup.stops H h1
  yld := fun i G ρ ts σ H x H' hi S y => by
    obtain ⟨b, vs, e, h1, h2⟩ := S.top (r := .fz (.tup l)) List.mem_cons_self rfl
    cases e
    have hl := h2.length
    obtain ⟨rfl, e⟩ := walk_tup.yields i H x H' (by omega) h1 y
    obtain ⟨p, e1, e2⟩ := h2.get' e
    exact ⟨p, e1, S.push e2⟩
/-- the signs of a text -/
def signs (z : Str) : List PV := z.cps.toList.map fun c => .str ⟨#[c]⟩
theorem it_str {z : Str} : ItOk K (Its z) [] (signs z) where
  fz := FzT.nil
  go := fun i G ρ ts σ H hi S => walk_str.goes i H (by simpa [signs] using hi) trivial
  stop := fun G ρ ts σ H S => by
    have : (signs z).length = z.cps.size := by simp [signs]
    rw [this]
    exact walk_str.stops H trivial
  yld := fun i G ρ ts σ H x H' hi S y => by
    obtain ⟨rfl, c, e, rfl⟩ := walk_str.yields i H x H' (by simpa [signs] using hi) trivial y
    refine ⟨.str ⟨#[c]⟩, ?_, S.pushSc rfl⟩
    unfold signs
    rw [List.getElem?_map, Array.getElem?_toList, e]
    rfl
/-- a row or a text that is walked: it is let go -/
def rowOf : PV → Option (List PV)
  | .tup l => some l
  | .lst l => some l
  | .str z => some (signs z)
  | _ => none
def wiRow (we : WE) : WI := fun ρ Q E => we ρ (fun r ρ1 => match fz1 ρ1 r with
  | some (p, ρ2) => match rowOf p with
    | some l => Q l ρ2
    | none => False
  | none => False) E
/-- a list, a tuple or a text is walked, whichever comes -/
def iRow (K : PySem.W.Frag) (te : TE) : TI := fun σ H R => te σ H fun x H1 => (∃ a xs, x = .ref a ∧ SqL K H1 a xs ∧ R (Itl K a) H1) ∨ (∃ a xs, x = .ref a ∧ SqT K H1 a xs ∧ R (Itt K a) H1) ∨ ∃ z, x = .str z ∧ R (Its z) H1
theorem pi_row {tg : Expr} {te : TE} (he : PE X e te) : PI X tg e (iRow X.K te) := by
  constructor
  intro pins s σ H R I h
  refine thn (he.run pins s σ H _ I h) fun v s1 hv => ?_
  obtain ⟨x, H1, I1, r1, q⟩ := hv
  rcases q with ⟨a, xs, rfl, hs, q⟩ | ⟨a, xs, rfl, hs, q⟩ | ⟨z, rfl, q⟩
  · cases r1
    obtain ⟨its, _, p, _⟩ := I1.list hs
    exact wpAny_pyIter_list p.isList (pi_one (tk := s1.toks) I1 _ (turn_list a _) ⟨_, Heap.get?_push_size _ rfl, rfl, rfl⟩ q)
  · cases r1
    obtain ⟨its, _, p, _⟩ := I1.tuple hs
    exact wpAny_pyIter_tuple (items := its.toArray) p (pi_one (tk := s1.toks) I1 _ (turn_tuple a _) ⟨_, Heap.get?_push_size _ rfl, rfl, rfl⟩ q)
  · obtain ⟨t, rfl⟩ := r1
    by_cases ha : z.cps.all (· < 128) = true
    · exact wpAny_pyIter_ascii ha (pi_one (tk := s1.toks) I1 _ (turn_str _ z t "str_ascii_iterator" (.inl rfl)) ⟨_, Heap.get?_push_size _ rfl, rfl, rfl⟩ q)
    · exact wpAny_pyIter_wide (by simpa using ha) (pi_one (tk := s1.toks) I1 _ (turn_str _ z t "str_iterator" (.inr rfl)) ⟨_, Heap.get?_push_size _ rfl, rfl, rfl⟩ q)
theorem qi_row {tg : Expr} {we : WE} (hk : X.K = C.K) (he : QE X C e we) : QI X C tg e (wiRow we) :=
  PI.imp (pi_row he) fun σ H R ⟨G, ρ, ts, Q', E', S, w, q, ee⟩ => ⟨G, ρ, ts, _, E', S, w, fun r ρ1 w v H1 S1 => by
    rw [hk]
    split at w
    · rename_i p ρ2 ef
      have S2 := S1.fz1 ef
      split at w
      · rename_i l el
        have t := S2.top List.mem_cons_self rfl
        cases p with
        | tup l' =>
          cases el
          obtain ⟨a, vs, rfl, h1, h2⟩ := t
          exact .inr (.inl ⟨a, vs, rfl, h1, q _ _ w _ [(.fz (.tup l), .ref a)] _ S2 it_tup⟩)
        | lst l' =>
          cases el
          obtain ⟨a, vs, rfl, h1, h2⟩ := t
          exact .inl ⟨a, vs, rfl, SqL.of h1, q _ _ w _ [(.fz (.lst l), .ref a)] _ S2 it_list⟩
        | str z =>
          cases el
          exact .inr (.inr ⟨z, t.str, q _ _ w _ [] _ S2.pop it_str⟩)
        | _ => cases el
      · exact w.elim
    · exact w.elim, ee⟩
/-- ranges -/
def rgI (lo : Int) (n : Nat) : List PV := (List.range n).map fun i => .int (lo + (i : Nat))
theorem rgI_get {lo : Int} {n i : Nat} (h : i < n) : (rgI lo n)[i]? = some (.int (lo + (i : Nat))) := by
  unfold rgI
  rw [List.getElem?_map, List.getElem?_range h]
  rfl
theorem rgI_length {lo : Int} {n : Nat} : (rgI lo n).length = n := by unfold rgI; rw [List.length_map, List.length_range]
theorem it_range {lo : Int} {n : Nat} : ItOk K (Itr lo n) [] (rgI lo n) where
  fz := FzT.nil
  go := fun i G ρ ts σ H hi S => walk_range.goes i H (by rwa [rgI_length] at hi) trivial
  stop := fun G ρ ts σ H S => by rw [rgI_length]; exact walk_range.stops H trivial
  yld := fun i G ρ ts σ H x H' hi S y => by
    rw [rgI_length] at hi
    obtain ⟨rfl, rfl⟩ := walk_range.yields i H x H' hi trivial y
    exact ⟨_, rgI_get hi, S.pushSc rfl⟩
def rOk (i : Int) : Prop := -(2 ^ 62) ≤ i ∧ i < 2 ^ 62
def wiRange1 (wr : WA) : WI := fun ρ Q E => wr ρ (fun rs ρ1 => ∃ ra j, rs = [ra] ∧ look ρ1 ra = some (.int j) ∧ rOk j ∧ Q (rgI 0 j.toNat) ρ1) E
def wiRange2 (wr : WA) : WI := fun ρ Q E => wr ρ (fun rs ρ1 => ∃ ra rb i j, rs = [ra, rb] ∧ look ρ1 ra = some (.int i) ∧ look ρ1 rb = some (.int j) ∧ rOk i ∧ rOk j ∧ Q (rgI i (j - i).toNat) ρ1) E
theorem qi_range1 {tg : Expr} {p : Pos} (hg : Gl X "range") (hm : X.mg "range" = none) (ha : QA X C [a] wr) (hs : starEach [a] X.env = [(false, eval a X.env)] := by rfl) : QI X C tg (.Call (.Name "range" p) [a] [] pos) (wiRange1 wr) :=
  PI.imp (pi_range1 hg hm ha hs) fun σ H R ⟨G, ρ, ts, Q', E', S, w, q, ee⟩ => ⟨G, ρ, ts, _, E', S, w, fun rs ρ1 ⟨ra, j, er, e, hj, w⟩ vs H1 hl S1 => by
    subst er
    match vs, hl with
    | [x], _ => exact ⟨j, by rw [(S1.top (r := ra) List.mem_cons_self e).int], hj.1, hj.2, q _ _ w _ [] _ S1.pop it_range⟩, ee⟩
theorem qi_range2 {tg : Expr} {p : Pos} (hg : Gl X "range") (hm : X.mg "range" = none) (ha : QA X C [a, b] wr) (hs : starEach [a, b] X.env = [(false, eval a X.env), (false, eval b X.env)] := by rfl) (hs2 : starEach [b] X.env = [(false, eval b X.env)] := by rfl) : QI X C tg (.Call (.Name "range" p) [a, b] [] pos) (wiRange2 wr) :=
  PI.imp (pi_range2 hg hm ha hs hs2) fun σ H R ⟨G, ρ, ts, Q', E', S, w, q, ee⟩ => ⟨G, ρ, ts, _, E', S, w, fun rs ρ1 ⟨ra, rb, i, j, er, e1, e2, hi, hj, w⟩ vs H1 hl S1 => by
    subst er
    match vs, hl with
    | [x, y], _ => exact ⟨i, j, by rw [(S1.top (r := ra) List.mem_cons_self e1).int, (S1.top (r := rb) (v := y) mem1 e2).int], ⟨hi.1, hi.2, hj.1, hj.2⟩, q _ _ w _ [] _ S1.pop.pop it_range⟩, ee⟩
/-! ### for -/
def wLoop (wt : WTg) (wb : WS) (P : PD) : List PV → En → Prop
  | [], ρ => P.nx ρ
  | x :: xs, ρ => wt x ρ fun ρ' => wb { nx := wLoop wt wb P xs, rt := P.rt, bk := P.nx, ct := wLoop wt wb P xs, ex := P.ex } ρ'
def wFor (wi : WI) (wt : WTg) (wb : WS) : WS := fun P ρ => wi ρ (fun items ρ1 => wLoop wt wb P items ρ1) P.ex
theorem FzT.append {us : Ts} (h : FzT us) (h' : FzT ts) : FzT (us ++ ts) := fun e he => (List.mem_append.mp he).elim (h e) (h' e)
theorem qs_for {tg iter : Expr} {body : List Stmt} {is : List Nat} {wi : WI} {wt : WTg} (hp : PassesOwn (model X.prog X.w) X.A X.env X.xe) (hc : X.calm = true) (hi : QI X C tg iter wi) (hg : QG X C tg is wt) (hb : QSs X C body ws) (hs : ∀ x, foldedSetIterable iter X.env x = pure x := by intro _; rfl) :
    QS X C (.For tg iter body [] pos) (wFor wi wt ws) :=
  PS.imp (ps_for hp hc hi hg hb hs) fun D σ H ⟨G, ρ, ts, P, ft, S, w, d⟩ => ⟨G, ρ, ts, _, P.ex, S, w, fun items ρ1 w J us H1 S1 ok => by
    refine ⟨fun i m σ H => m = items.length - i ∧ i ≤ items.length ∧ ∃ ρ, Sta C.K G ρ (us ++ ts) σ H ∧ wLoop wt ws P (items.drop i) ρ, ⟨_, rfl, Nat.zero_le _, ρ1, S1, w⟩, ?_⟩
    rintro i m σ H ⟨rfl, hi, ρ, S, w⟩
    by_cases hlt : i < items.length
    · refine .inr ⟨ok.go i G ρ ts σ H hlt S, fun σ' H' => ∃ ρ', Sta C.K G ρ' (us ++ ts) σ' H' ∧ wLoop wt ws P (items.drop (i + 1)) ρ', fun σ' H' ⟨ρ', S', w'⟩ => ⟨items.length - (i + 1), by omega, rfl, hlt, ρ', S', w'⟩, fun x H' y => ?_⟩
      obtain ⟨p, ep, S2⟩ := ok.yld i G ρ ts σ H x H' hlt S y
      have ed : items.drop i = p :: items.drop (i + 1) := by
        rw [List.drop_eq_getElem_cons hlt]
        rw [List.getElem?_eq_getElem hlt] at ep
        cases ep
        rfl
      rw [ed] at w
      refine ⟨G, ρ, us ++ ts, p, _, (ok.fz.append ft).noBr, S2, w, fun ρ' w σ' H' S3 _ _ => ⟨G, ρ', us ++ ts, _, ok.fz.append ft, S3, w, ?_, ?_, ?_, ?_, d.ex⟩⟩
      · exact fun ρ w σ H S => ⟨ρ, S, w⟩
      · exact d.rt
      · exact fun ρ w σ H S => d.nx ρ w σ H S.dropN
      · exact fun ρ w σ H S => ⟨ρ, S, w⟩
    · have e : i = items.length := by omega
      subst e
      rw [List.drop_length] at w
      exact .inl ⟨ok.stop G ρ ts σ H S, d.nx ρ w σ H S.dropN⟩, d.ex⟩
/-- while: the test, the body, again; n turns at most -/
def wWhileN (t : WT) (wb : WS) (P : PD) : Nat → En → Prop
  | 0, _ => False
  | n + 1, ρ => t ρ (fun k ρ1 => if k = true then wb { nx := wWhileN t wb P n, rt := P.rt, bk := P.nx, ct := wWhileN t wb P n, ex := P.ex } ρ1 else P.nx ρ1) P.ex
def wWhile (t : WT) (wb : WS) : WS := fun P ρ => ∃ n, wWhileN t wb P n ρ
theorem qs_while {t : WT} {body : List Stmt} (hp : PassesOwn (model X.prog X.w) X.A X.env X.xe) (hc : QT X C c t) (hb : QSs X C body ws) : QS X C (.While c body [] pos) (wWhile t ws) :=
  PS.imp (ps_while hp hc hb) fun D σ H ⟨G, ρ, ts, P, ft, S, ⟨n, w⟩, d⟩ => by
    refine ⟨fun m σ H => ∃ ρ, Sta C.K G ρ ts σ H ∧ wWhileN t ws P m ρ, ⟨n, ρ, S, w⟩, ?_⟩
    rintro m σ H ⟨ρ, S, w⟩
    cases m with
    | zero => exact w.elim
    | succ m =>
      refine ⟨G, ρ, ts, _, P.ex, S, w, fun k ρ1 w H1 S1 => ?_, d.ex⟩
      cases k with
      | true =>
        rw [if_pos rfl] at w ⊢
        refine ⟨fun σ' H' => ∃ ρ', Sta C.K G ρ' ts σ' H' ∧ wWhileN t ws P m ρ', fun σ' H' h => ⟨m, by omega, h⟩, G, ρ1, ts, _, ft, S1, w, ?_, ?_, ?_, ?_, d.ex⟩
        · exact fun ρ w σ H S => ⟨ρ, S, w⟩
        · exact d.rt
        · exact fun ρ w σ H S => d.nx ρ w σ H S
        · exact fun ρ w σ H S => ⟨ρ, S, w⟩
      | false =>
        rw [if_neg (by decide)] at w ⊢
        exact d.nx ρ1 w σ H1 S1
end SyP
set_option autoImplicit false
/-! Pure words 7: comprehensions. -/
namespace SyP
open PySem PySem.Spec PyProof.Rows L2 Sy
variable {K : PySem.W.Frag} {sa : SA} {H H' Hm : Hp} {G : Gh} {ρ ρ' : En} {ts ts' : Ts} {σ σ' : L2.St} {C : CC} {X : Cx} {a b c : Expr} {pos p2 : Pos} {wa wb wc w : WE} {e : Expr} {es : List Expr} {wr : WA}
/-- a held temporary is changed -/
theorem Sta.mutT {p p' : PV} {a : Addr} {o : HO} (S : Sta K G ρ ((.ow p, .ref a) :: ts) σ H) (hx : Obj1 K G.sa (msk (OA G ρ ((.ow p, .ref a) :: ts) σ) H) (upd H a o) a p') : Sta K G ρ ((.ow p', .ref a) :: ts) σ (upd H a o) := by
  have oa : Owns ρ ((.ow p, .ref a) :: ts) σ a := .inr ⟨_, List.mem_cons_self, .ow⟩
  have h0a : G.H0 a = none := S.new a oa
  have sk : saOk G.sa (upd H a o) := fun l s e => by
    obtain ⟨ne, ns, x, k, h1, h2, h3, h4⟩ := S.sk l s e
    have n1 : s ≠ a := fun z => S.od a (z ▸ S.so l s e) h0a
    have n2 : l ≠ a := fun z => S.lo l s e (z ▸ h0a)
    exact ⟨ne, ns, x, k, by rw [upd_ne n2]; exact h1, h2, by rw [upd_ne n1]; exact h3, h4⟩
  have eq : ∀ b, Owns ρ ((.ow p', .ref a) :: ts) σ b → Owns ρ ((.ow p, .ref a) :: ts) σ b := fun b z => by
    rcases z with z | ⟨e, he, z⟩
    · exact .inl z
    · rcases List.mem_cons.mp he with rfl | he
      · obtain ⟨_, e⟩ := z
        cases e
        exact oa
      · exact .inr ⟨e, List.mem_cons_of_mem _ he, z⟩
  have hd := List.pairwise_cons.mp S.dT
  refine S.gen S.len (fun b u _ n e => ?_) sk (fun b z nb => absurd (eq b z) nb) (fun b u nb e z => nb (.inl (eq b z))) (fun sm i r e => ?_) (fun sm e he => ?_) S.dS (fun j e f b hs hf x y => ?_) (List.pairwise_cons.mpr ⟨fun f hf b x y => ?_, hd.2⟩) (fun e he j ej => ?_)
  · rw [upd_ne (show b ≠ a from fun z => n (z ▸ oa))]
    exact e
  · obtain ⟨v, e1, e2⟩ := S.slot i r e
    refine ⟨v, e1, ?_⟩
    cases r with
    | fz p => exact Rep.same sm e2
    | ow q =>
      obtain ⟨b, rfl, ob⟩ := e2
      have nb : b ≠ a := fun w => S.dX i (.ow q, .ref b) _ a ⟨e, e1⟩ List.mem_cons_self (w ▸ .ow) .ow
      exact ⟨b, rfl, ob.same sm fun o e => by rw [upd_ne nb]; exact e⟩
    | br j => exact e2
  · rcases List.mem_cons.mp he with rfl | he
    · exact ⟨a, rfl, hx.same sm fun o e => e⟩
    · have t := S.tmp e (List.mem_cons_of_mem _ he)
      have hne := hd.1 e he
      obtain ⟨r, v⟩ := e
      cases r with
      | fz p => exact Rep.same sm t
      | ow q =>
        obtain ⟨b, e, ob⟩ := t
        obtain rfl : v = .ref b := e
        have nb : b ≠ a := fun w => hne a .ow (w ▸ .ow)
        exact ⟨b, rfl, ob.same sm fun o e => by rw [upd_ne nb]; exact e⟩
      | br j => exact t
  · rcases List.mem_cons.mp hf with rfl | hf
    · obtain ⟨_, e2⟩ := y
      cases e2
      exact S.dX j e _ a hs List.mem_cons_self x .ow
    · exact S.dX j e f b hs (List.mem_cons_of_mem _ hf) x y
  · obtain ⟨_, e2⟩ := x
    cases e2
    exact hd.1 f hf a .ow y
  · rcases List.mem_cons.mp he with rfl | he
    · cases ej
    · exact S.brn e (List.mem_cons_of_mem _ he) j ej
theorem wipe_get {σ : L2.St} {j : Nat} : ∀ {vs : List Nat}, j ∈ vs → j < σ.length → (wipe σ vs)[j]? = some none
  | v :: vs, h, hl => by
    unfold wipe
    by_cases z : v = j
    · subst z
      rw [List.getElem?_set_self (by rw [wipe_length]; exact hl)]
    · rw [List.getElem?_set_ne z]
      rcases List.mem_cons.mp h with h | h
      · exact absurd h.symm z
      · exact wipe_get h hl
theorem wipe_eq {σ σ' : L2.St} {vs : List Nat} (hl : σ'.length = σ.length) (h : ∀ j, j ∉ vs → σ'[j]? = σ[j]?) : wipe σ' vs = wipe σ vs := by
  refine List.ext_getElem? fun j => ?_
  by_cases z : j ∈ vs
  · by_cases l : j < σ.length
    · rw [wipe_get z l, wipe_get z (by omega)]
    · rw [List.getElem?_eq_none (by rw [wipe_length]; omega), List.getElem?_eq_none (by rw [wipe_length]; omega)]
  · rw [wipe_out z, wipe_out z, h j z]
def wipeE (ρ : En) : List Nat → En
  | [] => ρ
  | v :: vs => (wipeE ρ vs).set v none
theorem wipeE_out {i : Nat} : ∀ {vs : List Nat}, i ∉ vs → (wipeE ρ vs)[i]? = ρ[i]?
  | [], _ => rfl
  | v :: vs, h => by
    unfold wipeE
    rw [List.getElem?_set_ne (fun z => h (by simp [z])), wipeE_out fun z => h (List.mem_cons_of_mem _ z)]
theorem wipeE_in {i : Nat} {r : AV} : ∀ {vs : List Nat}, (wipeE ρ vs)[i]? = some (some r) → i ∉ vs
  | [], _ => by simp
  | v :: vs, h => by
    unfold wipeE at h
    by_cases z : v = i
    · subst z
      by_cases hl : v < (wipeE ρ vs).length
      · rw [List.getElem?_set_self hl] at h
        cases h
      · rw [List.getElem?_eq_none (by rw [List.length_set]; omega)] at h
        cases h
    · rw [List.getElem?_set_ne z] at h
      have := wipeE_in h
      simp only [List.mem_cons, not_or]
      exact ⟨fun e => z e.symm, this⟩
/-! ### comprehensions -/
def CC.nox (C : CC) : CC := { C with E0 := fun _ _ _ => False }
theorem eex_nox : EEx C.nox G (fun _ => False) := fun _ h => h.elim
/-- one item's turn: what it adds -/
def wTurn (vs : List Nat) (ρ1 : En) (wt : WTg) (tt : WT) (we : WE) (x : PV) (Kk : List PV → Prop) : Prop := wt x ρ1 fun ρ2 => wipeE ρ2 vs = ρ1 ∧ tt ρ2 (fun b ρ3 => ρ3 = ρ2 ∧ if b = true then we ρ2 (fun r ρ4 => match fz1 ρ4 r with
  | some (p, ρ5) => ρ5 = ρ2 ∧ Kk [p]
  | none => False) (fun _ => False) else Kk []) (fun _ => False)
def wColl (turn : PV → (List PV → Prop) → Prop) : List PV → List PV → (List PV → Prop) → Prop
  | [], acc, Q => Q acc
  | x :: xs, acc, Q => turn x fun ys => wColl turn xs (acc ++ ys) Q
def wLc (wi : WI) (vs : List Nat) (wt : WTg) (tt : WT) (we : WE) : WE := fun ρ Q E => wi ρ (fun items ρ1 => (∀ i ∈ vs, ρ1[i]? = some none) ∧ items.length ≤ sizeLine ∧ wColl (wTurn vs ρ1 wt tt we) items [] fun l => Q (.ow (.lst l)) ρ1) E
def wTrue : WT := fun ρ Q _ => Q true ρ
theorem drop_one {items : List PV} {i : Nat} {p : PV} (ep : items[i]? = some p) : items.drop i = p :: items.drop (i + 1) := by
  obtain ⟨hlt, e⟩ := List.getElem?_eq_some_iff.mp ep
  rw [List.drop_eq_getElem_cons hlt, e]
/-- the block of a comprehension begins: the slots of its own names are forgotten -/
theorem Sta.inBlk {vs : List Nat} (S : Sta K G ρ ts σ H) (hv : ∀ i ∈ vs, ρ[i]? = some none) : Sta K G ρ ts (wipe σ vs) H := by
  have out : ∀ {i : Nat} {r : AV}, ρ[i]? = some (some r) → i ∉ vs := fun {i r} h hm => by
    rw [hv i hm] at h
    cases h
  exact S.less (by rw [wipe_length]; exact S.len) (fun i r h => ⟨h, wipe_out (out h)⟩) fun e he i ei => by
    obtain ⟨r, hr⟩ := S.brn e he i ei
    exact ⟨⟨r, hr⟩, wipe_out (out hr)⟩
/-- .. and ends -/
theorem Sta.outBlk {vs : List Nat} {ρ2 : En} {σ2 : L2.St} (S : Sta K G ρ2 ts σ2 H) (h0 : wipeE ρ2 vs = ρ) (hl : ρ.length = σ.length) (h : ∀ j, j ∉ vs → σ2[j]? = σ[j]?) (nb : ∀ e ∈ ts, ∀ i, e.1 = .br i → ∃ r, ρ[i]? = some (some r)) : Sta K G ρ ts σ H := by
  subst h0
  refine S.less hl (fun i r e => ?_) fun e he i ei => ?_
  · have hn := wipeE_in e
    rw [wipeE_out hn] at e
    exact ⟨e, (h i hn).symm⟩
  · obtain ⟨r, hr⟩ := nb e he i ei
    exact ⟨⟨r, hr⟩, (h i (wipeE_in hr)).symm⟩
abbrev Blk (X : Cx) (scope : Scope) (f : Cx → Prop) : Prop := ∀ (s : Shared) (H : Hp) (A : Addr) (cl : List (Str × Addr)) (fp : List Addr), f (X.blk s H scope (compEnvC scope cl A X.env) fp)
/-- an item is appended to the list of a comprehension -/
theorem Sta.addD {pre : Ts} {acc : List PV} {D : Addr} {r : AV} {v : V} {p : PV} (S : Sta K G ρ ((r, v) :: (pre ++ (.ow (.lst acc), .ref D) :: ts)) σ H) (ef : SyP.fz1 ρ r = some (p, ρ')) :
    ∃ vs, H D = some (.lst vs) ∧ vs.length = acc.length ∧ Sta K G ρ' (pre ++ (.ow (.lst (acc ++ [p])), .ref D) :: ts) σ (upd H D (.lst (vs ++ [v]))) := by
  have S7 := S.fz1 ef
  have S8 : Sta K G ρ' ((.ow (.lst acc), .ref D) :: (.fz p, v) :: (pre ++ ts)) σ H := S7.perm ((List.Perm.cons _ List.perm_middle).trans (List.Perm.swap _ _ _))
  obtain ⟨D', eD, vs', hD, hr⟩ := S8.tmp _ List.mem_cons_self
  cases eD
  have hp := S8.tmp (.fz p, v) mem1
  have S9 := S8.mutT (o := .lst (vs' ++ [v])) (p' := .lst (acc ++ [p])) ⟨_, upd_same, Reps.append hr (Reps.cons hp Reps.nil)⟩
  exact ⟨vs', hD, hr.length, ((S9.perm (List.Perm.swap _ _ _)).pop).perm List.perm_middle.symm⟩
theorem tLc_of {wi : WI} {is vs : List Nat} {wt : WTg} {tt : WT} {we : WE} (hsub : ∀ i ∈ is, i ∈ vs) {Q : VK} (h : tP C (wLc wi vs wt tt we) σ H Q) : tLc (tPI C wi) (tPG C.nox is wt) (tPT C.nox tt) (tP C.nox we) vs σ H Q := by
  obtain ⟨G, ρ, ts, Q', E', S, w, q, ee⟩ := h
  refine ⟨G, ρ, ts, _, E', S, w, fun items ρ1 ⟨hv, hz, w⟩ J us H1 S1 ok D nD => ?_, ee⟩
  have SD : Sta C.K G ρ1 ((.ow (.lst []), .ref D) :: (us ++ ts)) σ (upd H1 D (.lst [])) := S1.newLst nD Reps.nil
  have SD : Sta C.K G ρ1 (us ++ (.ow (.lst []), .ref D) :: ts) σ (upd H1 D (.lst [])) := SD.perm List.perm_middle.symm
  refine ⟨fun i m H => m = items.length - i ∧ i ≤ items.length ∧ ∃ acc, acc.length ≤ i ∧ Sta C.K G ρ1 (us ++ (.ow (.lst acc), .ref D) :: ts) σ H ∧ wColl (wTurn vs ρ1 wt tt we) (items.drop i) acc fun l => Q' (.ow (.lst l)) ρ1, ⟨_, rfl, Nat.zero_le _, [], Nat.le_refl _, SD, w⟩, ?_⟩
  rintro i m H ⟨rfl, hi, acc, ha, S, w⟩
  by_cases hlt : i < items.length
  · refine .inr ⟨ok.go i G ρ1 _ σ H hlt S, fun H' => ∃ acc, acc.length ≤ i + 1 ∧ Sta C.K G ρ1 (us ++ (.ow (.lst acc), .ref D) :: ts) σ H' ∧ wColl (wTurn vs ρ1 wt tt we) (items.drop (i + 1)) acc fun l => Q' (.ow (.lst l)) ρ1, fun H' h => ⟨items.length - (i + 1), by omega, rfl, hlt, h⟩, fun x H' y => ?_⟩
    obtain ⟨p, ep, S2⟩ := ok.yld i G ρ1 _ σ H x H' hlt S y
    rw [drop_one ep] at w
    have S3 := S2.inBlk hv
    have nbr : ∀ e ∈ us ++ (AV.ow (.lst acc), V.ref D) :: ts, ∀ i, e.1 = .br i → ∃ r, ρ1[i]? = some (some r) := S.brn
    refine ⟨G, ρ1, _, p, _, fun e he j hj ej => ?_, S3, w, fun ρ2 ⟨hw, w⟩ σ2 H2 S4 hl hk => ?_⟩
    · obtain ⟨r, hr⟩ := nbr e he j ej
      rw [hv j (hsub j hj)] at hr
      cases hr
    · have hk2 : ∀ j, j ∉ vs → σ2[j]? = σ[j]? := fun j hj => by
        rw [hk j (fun z => hj (hsub j z)), wipe_out hj]
      refine ⟨wipe_eq (by rw [hl, wipe_length]) hk2, G, ρ2, _, _, fun _ => False, S4, w, fun b ρ3 ⟨e3, w⟩ H3 S5 => ?_, eex_nox⟩
      subst e3
      cases b with
      | true =>
        rw [if_pos rfl] at w ⊢
        refine ⟨G, ρ3, _, _, fun _ => False, S5, w, fun r ρ4 w v H4 S6 => ?_, eex_nox⟩
        split at w
        · rename_i p' ρ5 ef
          obtain ⟨e5, w5⟩ := w
          subst e5
          obtain ⟨vs', hD, hl', S10⟩ := S6.addD ef
          refine ⟨vs', hD, by omega, acc ++ [p'], by simp; omega, ?_, w5⟩
          refine S10.outBlk hw S1.len hk2 fun e he i ei => ?_
          rcases List.mem_append.mp he with he | he
          · exact nbr e (List.mem_append_left _ he) i ei
          · rcases List.mem_cons.mp he with rfl | he
            · cases ei
            · exact nbr e (List.mem_append_right _ (List.mem_cons_of_mem _ he)) i ei
        · exact w.elim
      | false =>
        rw [if_neg (by decide)] at w ⊢
        rw [List.append_nil] at w
        exact ⟨acc, by omega, S5.outBlk hw S1.len hk2 nbr, w⟩
  · have e : i = items.length := by omega
    subst e
    rw [List.drop_length] at w
    exact .inl ⟨ok.stop G ρ1 _ σ H S, q _ _ w _ _ S.dropN⟩
theorem qe_lc {elt tg iter : Expr} {ifs : List Expr} {scope : Scope} {own : List (Str × Nat)} {wi : WI} {is vs : List Nat} {wt : WTg} {tt : WT} {we : WE} (hc : X.calm = true) (hN : X.N.Nodup) (hi : QI X C tg iter wi) (ok : BlkOk X.N X.env.scope scope own) (hvs : own.map (·.2) = vs) (hsub : ∀ i ∈ is, i ∈ vs)
    (hg : Blk X scope fun X' => QG X' C.nox tg is wt) (ht : Blk X scope fun X' => PTs X' ifs (tPT C.nox tt)) (he : Blk X scope fun X' => QE X' C.nox elt we) (hs : ∀ x, foldedSetIterable iter X.env x = pure x := by intro _; rfl) :
    QE X C (.ListComp elt [⟨tg, iter, ifs, 0⟩] scope pos) (wLc wi vs wt tt we) := by
  subst hvs
  exact PE.imp (pe_lc hc hN hi ok hg ht he hs) fun _ _ _ h => tLc_of hsub h
theorem qts_nil : PTs X [] (tPT C wTrue) := ⟨fun pins s σ H Q I ⟨G, ρ, ts, Q', E', S, w, q, ee⟩ => pts_nil.run pins s σ H Q I (q _ _ w _ S)⟩
theorem qts_one {t : WT} (h : QT X C c t) : PTs X [c] (tPT C t) := pts_one h
/-- name = [..] on one line -/
theorem qs_setLc {i : Nat} {y : Str} {py : Pos} {elt tg iter : Expr} {ifs : List Expr} {scope : Scope} {own : List (Str × Nat)} {spos : Pos} {wi : WI} {is vs : List Nat} {wt : WTg} {tt : WT} {we : WE} (hc : X.calm = true) (hN : X.N.Nodup) (hy : X.N[i]? = some y) (hyl : X.env.scope.names.lookup y = some .local)
    (hsw : swapsWith (.ListComp elt [⟨tg, iter, ifs, 0⟩] scope pos) (some (.Name y py)) spos.line X.env = pure true) (hi : QI X C tg iter wi) (ok : BlkOk X.N X.env.scope scope own) (hvs : own.map (·.2) = vs) (hsub : ∀ i ∈ is, i ∈ vs)
    (hg : Blk X scope fun X' => QG X' C.nox tg is wt) (ht : Blk X scope fun X' => PTs X' ifs (tPT C.nox tt)) (he : Blk X scope fun X' => QE X' C.nox elt we) (hs : ∀ x, foldedSetIterable iter X.env x = pure x := by intro _; rfl) :
    QS X C (.Assign [.Name y py] (.ListComp elt [⟨tg, iter, ifs, 0⟩] scope pos) spos) (wSet i (wLc wi vs wt tt we)) := by
  subst hvs
  exact PS.imp (ps_setLc hc hN hy hyl hsw hi ok hg ht he hs) fun _ _ _ h => tLc_of hsub (tSet_of h)
/-! ### two clauses -/
def wTurn2 (vs : List Nat) (ρ1 : En) (wt : WTg) (tt : WT) (wi1 : WI) (vs1 : List Nat) (wt1 : WTg) (tt1 : WT) (we : WE) (x : PV) (Kk : List PV → Prop) : Prop := wt x ρ1 fun ρ2 => wipeE ρ2 vs = ρ1 ∧ tt ρ2 (fun b ρ3 => ρ3 = ρ2 ∧ if b = true then
  wi1 ρ2 (fun items1 ρ4 => ρ4 = ρ2 ∧ (∀ i ∈ vs1, ρ2[i]? = some none) ∧ items1.length ≤ 4096 ∧ wColl (wTurn vs1 ρ2 wt1 tt1 we) items1 [] Kk) (fun _ => False) else Kk []) (fun _ => False)
def wLc2 (wi : WI) (vs : List Nat) (wt : WTg) (tt : WT) (wi1 : WI) (vs1 : List Nat) (wt1 : WTg) (tt1 : WT) (we : WE) : WE := fun ρ Q E => wi ρ (fun items ρ1 => (∀ i ∈ vs, ρ1[i]? = some none) ∧ items.length ≤ 4095 ∧
  wColl (wTurn2 vs ρ1 wt tt wi1 vs1 wt1 tt1 we) items [] fun l => Q (.ow (.lst l)) ρ1) E
theorem tLc2_of {wi wi1 : WI} {is is1 vs vs1 : List Nat} {wt wt1 : WTg} {tt tt1 : WT} {we : WE} (hsub : ∀ i ∈ is, i ∈ vs) (hsub1 : ∀ i ∈ is1, i ∈ vs1) {Q : VK} (h : tP C (wLc2 wi vs wt tt wi1 vs1 wt1 tt1 we) σ H Q) :
    tLc2 (tPI C wi) (tPG C.nox is wt) (tPT C.nox tt) (tPI C.nox wi1) (tPG C.nox is1 wt1) (tPT C.nox tt1) (tP C.nox we) vs vs1 σ H Q := by
  obtain ⟨G, ρ, ts, Q', E', S, w, q, ee⟩ := h
  refine ⟨G, ρ, ts, _, E', S, w, fun items ρ1 ⟨hv, hz, w⟩ J us H1 S1 ok D nD => ?_, ee⟩
  have SD : Sta C.K G ρ1 ((.ow (.lst []), .ref D) :: (us ++ ts)) σ (upd H1 D (.lst [])) := S1.newLst nD Reps.nil
  have SD : Sta C.K G ρ1 (us ++ (.ow (.lst []), .ref D) :: ts) σ (upd H1 D (.lst [])) := SD.perm List.perm_middle.symm
  have hsz := sizeLine_eq
  refine ⟨fun i m H => m = items.length - i ∧ i ≤ items.length ∧ ∃ acc, acc.length ≤ i * 4096 ∧ Sta C.K G ρ1 (us ++ (.ow (.lst acc), .ref D) :: ts) σ H ∧ wColl (wTurn2 vs ρ1 wt tt wi1 vs1 wt1 tt1 we) (items.drop i) acc fun l => Q' (.ow (.lst l)) ρ1, ⟨_, rfl, Nat.zero_le _, [], Nat.zero_le _, SD, w⟩, ?_⟩
  rintro i m H ⟨rfl, hi, acc, ha, S, w⟩
  by_cases hlt : i < items.length
  · refine .inr ⟨ok.go i G ρ1 _ σ H hlt S, fun H' => ∃ acc, acc.length ≤ (i + 1) * 4096 ∧ Sta C.K G ρ1 (us ++ (.ow (.lst acc), .ref D) :: ts) σ H' ∧ wColl (wTurn2 vs ρ1 wt tt wi1 vs1 wt1 tt1 we) (items.drop (i + 1)) acc fun l => Q' (.ow (.lst l)) ρ1, fun H' h => ⟨items.length - (i + 1), by omega, rfl, hlt, h⟩, fun x H' y => ?_⟩
    obtain ⟨p, ep, S2⟩ := ok.yld i G ρ1 _ σ H x H' hlt S y
    rw [drop_one ep] at w
    have S3 := S2.inBlk hv
    have nbr : ∀ e ∈ us ++ (AV.ow (.lst acc), V.ref D) :: ts, ∀ i, e.1 = .br i → ∃ r, ρ1[i]? = some (some r) := S.brn
    have nbrD : ∀ acc', ∀ e ∈ us ++ (AV.ow (.lst acc'), V.ref D) :: ts, ∀ i, e.1 = .br i → ∃ r, ρ1[i]? = some (some r) := fun acc' e he i ei => by
      rcases List.mem_append.mp he with he | he
      · exact nbr e (List.mem_append_left _ he) i ei
      · rcases List.mem_cons.mp he with rfl | he
        · cases ei
        · exact nbr e (List.mem_append_right _ (List.mem_cons_of_mem _ he)) i ei
    refine ⟨G, ρ1, _, p, _, fun e he j hj ej => ?_, S3, w, fun ρ2 ⟨hw, w⟩ σ2 H2 S4 hl hk => ?_⟩
    · obtain ⟨r, hr⟩ := nbr e he j ej
      rw [hv j (hsub j hj)] at hr
      cases hr
    · have hk2 : ∀ j, j ∉ vs → σ2[j]? = σ[j]? := fun j hj => by
        rw [hk j (fun z => hj (hsub j z)), wipe_out hj]
      refine ⟨wipe_eq (by rw [hl, wipe_length]) hk2, G, ρ2, _, _, fun _ => False, S4, w, fun b ρ3 ⟨e3, w⟩ H3 S5 => ?_, eex_nox⟩
      subst e3
      cases b with
      | false =>
        rw [if_neg (by decide)] at w ⊢
        rw [List.append_nil] at w
        exact ⟨acc, by omega, S5.outBlk hw S1.len hk2 nbr, w⟩
      | true =>
        rw [if_pos rfl] at w ⊢
        refine ⟨G, ρ3, _, _, fun _ => False, S5, w, fun items1 ρ4 ⟨e4, hv1, hz1, w1⟩ J1 us1 H4 S6 ok1 => ?_, eex_nox⟩
        subst e4
        refine ⟨fun j k H => k = items1.length - j ∧ j ≤ items1.length ∧ ∃ ys, ys.length ≤ j ∧ Sta C.K G ρ4 (us1 ++ (us ++ (.ow (.lst (acc ++ ys)), .ref D) :: ts)) σ2 H ∧ wColl (wTurn vs1 ρ4 wt1 tt1 we) (items1.drop j) ys fun ys => wColl (wTurn2 vs ρ1 wt tt wi1 vs1 wt1 tt1 we) (items.drop (i + 1)) (acc ++ ys) fun l => Q' (.ow (.lst l)) ρ1, ⟨_, rfl, Nat.zero_le _, [], Nat.le_refl _, by rw [List.append_nil]; exact S6, w1⟩, ?_⟩
        rintro j k H ⟨rfl, hj, ys, hys, T, w2⟩
        by_cases jlt : j < items1.length
        · refine .inr ⟨ok1.go j G ρ4 _ σ2 H jlt T, fun H' => ∃ ys, ys.length ≤ j + 1 ∧ Sta C.K G ρ4 (us1 ++ (us ++ (.ow (.lst (acc ++ ys)), .ref D) :: ts)) σ2 H' ∧ wColl (wTurn vs1 ρ4 wt1 tt1 we) (items1.drop (j + 1)) ys fun ys => wColl (wTurn2 vs ρ1 wt tt wi1 vs1 wt1 tt1 we) (items.drop (i + 1)) (acc ++ ys) fun l => Q' (.ow (.lst l)) ρ1, fun H' h => ⟨items1.length - (j + 1), by omega, rfl, jlt, h⟩, fun x1 H5 y1 => ?_⟩
          obtain ⟨p1, ep1, T2⟩ := ok1.yld j G ρ4 _ σ2 H x1 H5 jlt T y1
          rw [drop_one ep1] at w2
          have T3 := T2.inBlk hv1
          have nbT := T.brn
          refine ⟨G, ρ4, _, p1, _, fun e he j hj ej => ?_, T3, w2, fun ρ5 ⟨hw5, w5⟩ σ3 H6 T4 hl5 hk5 => ?_⟩
          · obtain ⟨r, hr⟩ := nbT e he j ej
            rw [hv1 j (hsub1 j hj)] at hr
            cases hr
          · have hk6 : ∀ j, j ∉ vs1 → σ3[j]? = σ2[j]? := fun j hj => by
              rw [hk5 j (fun z => hj (hsub1 j z)), wipe_out hj]
            refine ⟨wipe_eq (by rw [hl5, wipe_length]) hk6, G, ρ5, _, _, fun _ => False, T4, w5, fun b ρ6 ⟨e6, w6⟩ H7 T5 => ?_, eex_nox⟩
            subst e6
            cases b with
            | false =>
              rw [if_neg (by decide)] at w6 ⊢
              rw [List.append_nil] at w6
              exact ⟨ys, by omega, T5.outBlk hw5 T.len hk6 nbT, w6⟩
            | true =>
              rw [if_pos rfl] at w6 ⊢
              refine ⟨G, ρ6, _, _, fun _ => False, T5, w6, fun r ρ7 w7 v H8 T6 => ?_, eex_nox⟩
              split at w7
              · rename_i p' ρ8 ef
                obtain ⟨e8, w8⟩ := w7
                subst e8
                rw [← List.append_assoc] at T6
                obtain ⟨vs', hD, hl', T7⟩ := T6.addD ef
                rw [List.length_append] at hl'
                refine ⟨vs', hD, by omega, ys ++ [p'], by simp; omega, ?_, w8⟩
                rw [List.append_assoc, List.append_assoc] at T7
                refine T7.outBlk hw5 T.len hk6 fun e he i ei => ?_
                rcases List.mem_append.mp he with he | he
                · exact nbT e (List.mem_append_left _ he) i ei
                · rcases List.mem_append.mp he with he | he
                  · exact nbT e (List.mem_append_right _ (List.mem_append_left _ he)) i ei
                  · rcases List.mem_cons.mp he with rfl | he
                    · cases ei
                    · exact nbT e (List.mem_append_right _ (List.mem_append_right _ (List.mem_cons_of_mem _ he))) i ei
              · exact w7.elim
        · have e : j = items1.length := by omega
          subst e
          rw [List.drop_length] at w2
          exact .inl ⟨ok1.stop G ρ4 _ σ2 H T, acc ++ ys, by rw [List.length_append]; omega, T.dropN.outBlk hw S1.len hk2 (nbrD _), w2⟩
  · have e : i = items.length := by omega
    subst e
    rw [List.drop_length] at w
    exact .inl ⟨ok.stop G ρ1 _ σ H S, q _ _ w _ _ S.dropN⟩
theorem qe_lc2 {elt tg iter tg1 iter1 : Expr} {ifs ifs1 : List Expr} {scope : Scope} {own : List (Str × Nat)} {vs vs1 : List Nat} {wi wi1 : WI} {is is1 : List Nat} {wt wt1 : WTg} {tt tt1 : WT} {we : WE} (hc : X.calm = true) (hN : X.N.Nodup) (hi : QI X C tg iter wi) (ok : BlkOk X.N X.env.scope scope own) (hvs : own.map (·.2) = vs) (hv : ∀ i ∈ vs1, i ∈ vs) (hsub : ∀ i ∈ is, i ∈ vs) (hsub1 : ∀ i ∈ is1, i ∈ vs1)
    (hg : Blk X scope fun X' => QG X' C.nox tg is wt) (ht : Blk X scope fun X' => PTs X' ifs (tPT C.nox tt)) (hi1 : Blk X scope fun X' => QI X' C.nox tg1 iter1 wi1) (hg1 : Blk X scope fun X' => QG X' C.nox tg1 is1 wt1) (ht1 : Blk X scope fun X' => PTs X' ifs1 (tPT C.nox tt1)) (he : Blk X scope fun X' => QE X' C.nox elt we)
    (hs : ∀ x, foldedSetIterable iter X.env x = pure x := by intro _; rfl) (hs1 : ∀ env x, foldedSetIterable iter1 env x = pure x := by intro _ _; rfl) :
    QE X C (.ListComp elt [⟨tg, iter, ifs, 0⟩, ⟨tg1, iter1, ifs1, 0⟩] scope pos) (wLc2 wi vs wt tt wi1 vs1 wt1 tt1 we) := by
  subst hvs
  exact PE.imp (pe_lc2 hc hN hi ok hv hg ht hi1 hg1 ht1 he hs hs1) fun _ _ _ h => tLc2_of hsub hsub1 h
end SyP
set_option autoImplicit false
/-! Pure words 8: defs, calls, errors, further statements and walks. -/
namespace SyP
open PySem PySem.Spec PyProof.Rows L2 Sy
variable {K : PySem.W.Frag} {sa : SA} {H H' Hm : Hp} {G : Gh} {ρ ρ' : En} {ts ts' : Ts} {σ σ' : L2.St} {C : CC} {X : Cx} {a b c : Expr} {pos p2 : Pos} {wa wb wc w : WE} {e : Expr} {es : List Expr} {wr : WA}
/-! ### defs -/
/-- what a body makes of its arguments -/
def wDef (n : Nat) (wb : WS) : WF := fun ps Q E => wb ⟨fun _ => Q (.fz .non), Q, fun _ => False, fun _ => False, E⟩ (ps.map (fun p => some (AV.fz p)) ++ List.replicate (n - ps.length) none)
abbrev CC.of (K : PySem.W.Frag) (mg : Str → Option Value) : CC := ⟨K, mg, fun _ _ _ => False⟩
/-- a def stands at a name, and keeps a promise over trees -/
structure HasF (P : Program) (w : World) (K : PySem.W.Frag) (mg : Str → Option Value) (base : Heap) (k : Nat) (nm : Str) (ps : List Str) (wf : WF) : Prop where
  ex : ∃ f fd, mg nm = some (.ref f) ∧ PySem.W.keepIn K (.ref f) = true ∧ Binds K fd ps [] ∧ FnOk P w K mg base (L2.CX P w) k f fd ps (spW (CC.of K mg) ps.length wf)
theorem sta0 {ps : List PV} {vs : List V} {N : List Str} (sk : saOk G.sa G.H0) (so : ∀ l s, G.sa = some (l, s) → G.O s) (od : ∀ a, G.O a → G.H0 a ≠ none) (r : Reps K G.sa (msk G.O G.H0) ps vs) :
    Sta K G (ps.map (fun p => some (AV.fz p)) ++ List.replicate (N.length - ps.length) none) [] (start N vs) G.H0 := by
  have hl := r.length
  have none_ow : ∀ {i : Nat} {e : AV × V} {a : Addr}, SlAt (ps.map (fun p => some (AV.fz p)) ++ List.replicate (N.length - ps.length) none) (start N vs) i e → OwAt e a → False := fun {i e a} hs ho => by
    obtain ⟨h1, _⟩ := hs
    have hm := List.mem_of_getElem? h1
    rcases List.mem_append.mp hm with hm | hm
    · obtain ⟨p, _, e1⟩ := List.mem_map.mp hm
      obtain ⟨⟨q, e2⟩, _⟩ := ho
      rw [e2] at e1
      cases e1
    · have := List.eq_of_mem_replicate hm
      cases this
  have no : ∀ {a : Addr}, ¬ Owns (ps.map (fun p => some (AV.fz p)) ++ List.replicate (N.length - ps.length) none) [] (start N vs) a := fun {a} z => by
    rcases z with ⟨i, e, hs, ho⟩ | ⟨e, he, _⟩
    · exact none_ow hs ho
    · cases he
  refine ⟨?_, Fra.refl, sk, so, fun l s e => ?_, od, fun a z => absurd z no, fun i r' e => ?_, fun e he => (nomatch he), fun i j e f a hs _ ho _ => (none_ow hs ho).elim, fun i e f a hs _ ho _ => none_ow hs ho, .nil, fun e he => nomatch he⟩
  · unfold L2.start
    rw [List.length_append, List.length_append, List.length_map, List.length_map, List.length_replicate, List.length_replicate, hl]
  · obtain ⟨_, _, _, _, h1, _⟩ := sk l s e
    rw [h1]
    exact fun z => nomatch z
  · have hi : i < ps.length := by
      by_cases hi : i < ps.length
      · exact hi
      · rw [List.getElem?_append_right (by rw [List.length_map]; omega), List.length_map] at e
        have := List.eq_of_mem_replicate (List.mem_of_getElem? e)
        cases this
    rw [List.getElem?_append_left (by rw [List.length_map]; exact hi), List.getElem?_map, List.getElem?_eq_getElem hi] at e
    cases e
    obtain ⟨v, e1, e2⟩ := r.get (List.getElem?_eq_getElem hi)
    refine ⟨v, ?_, ?_⟩
    · unfold L2.start
      rw [List.getElem?_append_left (by rw [List.length_map]; omega), List.getElem?_map, e1]
      rfl
    · show Rep K G.sa _ _ v
      exact Rep.same (msk_same fun a o n e => ⟨fun z => z.elim no n, e⟩) e2
section
variable {P : Program} {w : World} {mg : Str → Option Value} {base : Heap} {x qual : Str} {st : Stmt} {f : Addr} {fd : FuncData} {N ps : List Str} {k : Nat} {wb : WS}
theorem def_ok (F : Fun K x qual st f fd) (S : FnScope N ps (defScope st))
    (hbody : ∀ (cdv : Value) (A : Around) (outer : List Env) (s : Shared) (H : Hp) (E : XK), Room k (A.deeper (envOfC qual (defScope st) s.heap.objs.size f cdv)) → QSs (cxOf (L2.CX P w) P w K mg base N qual (defScope st) f cdv A outer s H E) ⟨K, mg, E⟩ (defBody st) wb) :
    FnOk P w K mg base (L2.CX P w) (k + 1) f fd ps (spW (CC.of K mg) ps.length (wDef N.length wb)) := by
  refine F.okX S (fun vs H Q E h => h.len) fun cdv A outer s H vs Q E hr h => ?_
  obtain ⟨G, qs, Q', E', rfl, sk, so, od, r, hl, w, q, ee⟩ := h
  refine ⟨_, hbody cdv A outer s G.H0 E hr, ⟨G, _, [], _, FzT.nil, sta0 sk so od r, w, ?_, ?_, ?_, ?_, ?_⟩⟩
  · exact fun ρ w σ H S => q _ w _ _ ⟨S.fr, S.sk, by unfold Rep; rfl⟩
  · exact fun r w v H h => q r w v H h
  · exact fun ρ w => w.elim
  · exact fun ρ w => w.elim
  · exact fun e w cls d H' h => ee e w cls d H' h
theorem has_of (F : Fun K x qual st f fd) (hm : mg x = some (.ref f)) (hb : Binds K fd ps []) {wf : WF} (h : FnOk P w K mg base (L2.CX P w) k f fd ps (spW (CC.of K mg) ps.length wf)) : HasF P w K mg base k x ps wf := ⟨f, fd, hm, F.kp, hb, h⟩
theorem HasF.mono {j : Nat} {wf : WF} (h : HasF P w K mg base j x ps wf) (hj : j ≤ k) : HasF P w K mg base k x ps wf := by
  obtain ⟨f, fd, h1, h2, h3, h4⟩ := h.ex
  exact ⟨f, fd, h1, h2, h3, h4.mono hj⟩
/-- a promise in other words -/
theorem HasF.imp {wf wf' : WF} (h : HasF P w K mg base k x ps wf) (i : ∀ qs Q E, wf' qs Q E → wf qs Q E) : HasF P w K mg base k x ps wf' := by
  obtain ⟨f, fd, h1, h2, h3, h4⟩ := h.ex
  exact ⟨f, fd, h1, h2, h3, h4.imp fun vs H Q E ⟨G, qs, Q', E', e0, sk, so, od, r, hl, w, q⟩ => ⟨G, qs, Q', E', e0, sk, so, od, r, hl, i _ _ _ w, q⟩⟩
end
/-- a promise for that many arguments -/
def wN (n : Nat) (wf : WF) : WF := fun qs Q E => qs.length = n ∧ wf qs Q E
/-- f(..) -/
theorem qe_f {k n : Nat} {ps : List Str} {wf : WF} {x : Str} {p : Pos} (F : HasF X.prog X.w X.K X.mg X.base k x ps wf) (hn : ps.length = n) (hC : C.K = X.K ∧ C.mg = X.mg) (hr : Room k X.A) (hg : Gl X x) (hx : Passes (L2.CX X.prog X.w) X C.E0)
    (ha : QA X C (e :: es) wr) (hdb : (x == ("__debug__" : Str)) = false := by decide) (he : starEach (e :: es) X.env = (false, eval e X.env) :: starEach es X.env := by rfl) (hpl : (backTo pos (starEach es X.env)).any (·.1) = false := by rfl) :
    QE X C (.Call (.Name x p) (e :: es) [] pos) (wCall (wN n wf) wr) := by
  subst hn
  obtain ⟨f, fd, h1, h2, h3, h4⟩ := F.ex
  rw [← hC.1, ← hC.2] at h4
  exact qe_call (C := C) (n := ps.length) (by rw [hC.1, hC.2] at h4 ⊢; exact h4) (fun _ _ _ _ _ => trivial) hr hg h1 h2 h3 hx ha hdb he hpl
theorem passes_no {Y : Cx} : Passes (L2.CX Y.prog Y.w) Y (fun _ _ _ => False) := fun pins σ H s e s' I h => by
  obtain ⟨_, _, _, _, _, _, _, _, _, _, _, _, z⟩ := h
  exact z.elim
theorem passes_E {E : XK} (tk : Takes X (fun cls d _ H => E cls d H)) : Passes (L2.CX X.prog X.w) X E := passes_call tk fun _ _ _ _ h => h
/-! ### errors -/
/-- self.fld = v, of an exception that is being made -/
def spXi (A : Addr) (fld : Str) : Sp := fun vs H Q _ => ∃ (a : Addr) (v : V), vs = [.ref a, v] ∧ H a = some (exo a A none) ∧ ∀ dx, H dx = none → dx ≠ a → Q .non (upd (upd H dx (exd dx [(fld, v)])) a (exo a A (some dx)))
/-- a class of exceptions whose one field is set by its own __init__ -/
structure Xc (P : Program) (w : World) (K : PySem.W.Frag) (mg : Str → Option Value) (base : Heap) (nm fld : Str) (A : Addr) : Prop where
  T : OexC K A
  g : mg nm = some (.ref A)
  ini : ∃ fI fd, PySem.W.findIn K (.ref A) "__init__" = some (some (.ref fI)) ∧ PySem.W.typeIn K (.ref fI) = some (.type "function") ∧ FnOk P w K mg base CX0 1 fI fd ["self", fld] (spXi A fld) ∧ Binds K fd ["self", fld] []
  xf : XfC K A
  no : PySem.W.findIn K (.ref A) fld = some none
  te : PySem.W.exmOne K (.ref A) (.ref A) = some true
/-- what raising leaves: an exception's dict, new; all else as it was -/
def Rz (E : XK) (A : Addr) (fld : Str) (v : V) (H : Hp) : Prop := ∀ d H', H d = none → Same H H' → H' d = some (.xd [(fld, v)]) → E (.ref A) (some d) H'
theorem rz_of {A : Addr} {fld : Str} {v : V} {H : Hp} {W : XK} (h : Rz W A fld v H) : ([v] : List V).length ≤ 1000 ∧ ∀ a, H a = none → spXi A fld (.ref a :: ([v] ++ [])) (upd H a (exo a A none))
    (fun u H2 => u = .non ∧ ∃ (d : Addr) (fs : List (Str × V)), H2 a = some (exo a A (some d)) ∧ H2 d = some (exd d fs) ∧ H d = none ∧ W (.ref A) (some d) (upd (del H2 a) d (.xd fs))) (fun _ _ _ => False) := by
  refine ⟨by show 1 ≤ 1000; decide, fun a ha => ⟨a, v, rfl, upd_same, fun dx hd hne => ⟨rfl, dx, [(fld, v)], upd_same, ?_, ?_, ?_⟩⟩⟩
  · rw [upd_ne hne, upd_same]
  · rw [upd_ne hne] at hd
    exact hd
  · rw [upd_ne hne] at hd
    refine h dx _ hd (fun b o e => ?_) upd_same
    have h1 : b ≠ a := ne_of_none e ha
    have h2 : b ≠ dx := ne_of_none e hd
    rw [upd_ne h2, del_ne h1, upd_ne h1, upd_ne h2, upd_ne h1]
    exact e
/-- raise C(e) -/
def tRz (A : Addr) (fld : Str) (W : WX) (te : TE) : TS := fun _ σ H => tCons te tNil σ H fun vs H1 => vs.length ≤ 1000 ∧ ∀ a, H1 a = none → spXi A fld (.ref a :: (vs ++ [])) (upd H1 a (exo a A none))
    (fun u H2 => u = .non ∧ ∃ (d : Addr) (fs : List (Str × V)), H2 a = some (exo a A (some d)) ∧ H2 d = some (exd d fs) ∧ H1 d = none ∧ W (.ref A) (some d) σ (upd (del H2 a) d (.xd fs))) (fun _ _ _ => False)
theorem ps_rz {A : Addr} {nm fld : Str} {W : WX} {te : TE} {p pos2 : Pos} (Z : Xc X.prog X.w X.K X.mg X.base nm fld A) (hc : X.calm = true) (tk : Takes X W) (hr : Room 2 X.A) (he : PE X e te) (hg : Gl X nm := by rfl) (hdb : (nm == ("__debug__" : Str)) = false := by decide)
    (hs : starEach (e :: []) X.env = (false, eval e X.env) :: starEach [] X.env := by rfl) (hpl : (backTo pos (starEach [] X.env)).any (·.1) = false := by rfl) :
    PS X (.Raise (some (.Call (.Name nm p) [e] [] pos)) none pos2) (tRz A fld W te) := by
  obtain ⟨fI, fd, h1, h2, F1, hb⟩ := Z.ini
  exact ps_raise hc tk (pmk_oex Z.T h1 h2 F1 hr hb .nil pass0 hg Z.g (pa_cons he pa_nil hs) hdb hs hpl)
def wRaise (nm fld : Str) (we : WE) : WS := fun P ρ => we ρ (fun r ρ1 => match fz1 ρ1 r with
  | some (p, _) => P.ex ⟨nm, [(fld, p)]⟩
  | none => False) P.ex
theorem qs_raise {A : Addr} {nm fld : Str} {we : WE} {p pos2 : Pos} (Z : Xc X.prog X.w X.K X.mg X.base nm fld A) (hC : C.mg = X.mg) (hc : X.calm = true) (tk : Takes X (fun cls d _ H => C.E0 cls d H)) (hr : Room 2 X.A) (he : QE X C e we) (hg : Gl X nm := by rfl) (hdb : (nm == ("__debug__" : Str)) = false := by decide)
    (hs : starEach (e :: []) X.env = (false, eval e X.env) :: starEach [] X.env := by rfl) (hpl : (backTo pos (starEach [] X.env)).any (·.1) = false := by rfl) :
    QS X C (.Raise (some (.Call (.Name nm p) [e] [] pos)) none pos2) (wRaise nm fld we) :=
  PS.imp (ps_rz Z hc tk hr he hg hdb hs hpl) fun D σ H ⟨G, ρ, ts, P, ft, S, w, d⟩ => ⟨G, ρ, ts, _, P.ex, S, w, fun r ρ1 w v H1 S1 => by
    split at w
    · rename_i q ρ2 ef
      have S2 := S1.fz1 ef
      refine rz_of (W := C.E0) fun dx H' hd sm hx => d.ex _ w _ _ _ ⟨S2.fr.trans (Fra.of sm), saOk.same sm S2.sk, A, dx, [v], by rw [hC]; exact Z.g, rfl, rfl, hx, ?_⟩
      refine Reps.cons (Rep.same (msk_same fun a o n e => ⟨fun z => n (.inr z), sm _ _ e⟩) (S2.tmp _ List.mem_cons_self)) Reps.nil
    · exact w.elim, d.ex⟩
/-! ### name op= e -/
def wAug (i : Nat) (w2 : W2) (we : WE) : WS := fun P ρ => match ρ[i]? with
  | some (some (.fz p)) => we ρ (fun r ρ1 => w2 ρ1 (.fz p) r fun res ρ2 => wKeep ρ2 res fun r' ρ3 => i < ρ3.length ∧ P.nx (ρ3.set i (some r'))) P.ex
  | _ => False
theorem qs_aug {i : Nat} {x : Str} {op : Operator} {w2 : W2} {r : R2} {we : WE} {pos' : Pos} (h2 : Op2 C w2 r) (hN : X.N.Nodup) (hi : X.N[i]? = some x) (hx : Loc X.env.scope x) (he : QE X C e we) (ho : OpR X (inplaceOp op) r) (hf : X.fn x = true ∨ X.env.scope.names.lookup x = some .local := by first | exact .inl rfl | exact .inr rfl | assumption) :
    QS X C (.AugAssign (.Name x pos') op e pos) (wAug i w2 we) :=
  PS.imp (ps_aug hN hi hx he ho hf) fun D σ H ⟨G, ρ, ts, P, ft, S, w, d⟩ => by
    unfold wAug at w
    split at w
    · rename_i p ep
      obtain ⟨v, e1, e2⟩ := S.slot i _ ep
      refine ⟨v, e1, G, ρ, (.fz p, v) :: ts, _, P.ex, S.push e2, w, fun r ρ1 w y H1 S1 => ?_, d.ex⟩
      refine h2 G ρ1 ts σ H1 v y (.fz p) r _ _ S1 w fun res ρ2 w z H2 S2 => ?_
      unfold wKeep at w
      split at w
      · rename_i r' ρ3 ek
        exact d.nx _ w.2 _ _ ((S2.keepA ek).put (keepA_nb ek) (fun e he => ft.noBr e he i (List.mem_singleton.mpr rfl)) w.1)
      · exact w.elim
    · exact w.elim
def wAugAdd : W2 := fun ρ ra rb Q => match look ρ ra, look ρ rb with
  | some (.int i), some (.int j) => Q (.fz (.int (i + j))) ρ
  | some (.str i), some (.str j) => i.length + j.length ≤ sizeLine ∧ Q (.fz (.str (i ++ j))) ρ
  | _, _ => False
def rAugAdd : R2 := fun x y H Q => rI0 (fun i j => .int (i + j)) x y H Q ∨ rAddStr x y H Q
theorem iop_addP : OpR X (inplaceOp .Add) rAugAdd := iop_add.or (r' := rAddStr) iop_add_str
theorem o2_augAdd : Op2 C wAugAdd rAugAdd := fun G ρ ts σ H x y ra rb Q' Q S w q => by
  unfold wAugAdd at w
  split at w
  · rename_i i j e1 e2
    exact .inl ⟨i, j, (S.top mem1 e1).int, (S.top List.mem_cons_self e2).int, q _ _ w _ _ (S.pop.pop.pushSc rfl)⟩
  · rename_i i j e1 e2
    exact .inr ⟨i, j, (S.top mem1 e1).str, (S.top List.mem_cons_self e2).str, w.1, q _ _ w.2 _ _ (S.pop.pop.pushSc rfl)⟩
  · exact w.elim
def wAugMul : W2 := wII CMul fun i j => .int (i * j)
theorem o2_augMul : Op2 C wAugMul (rI CMul fun i j => .int (i * j)) := o2_I fun _ _ => rfl
/-! ### o[k] = e, o a list that a name alone holds -/
def wSetIx (wv wo wk : WE) : WS := fun P ρ => wv ρ (fun rv ρ1 => wo ρ1 (fun ro ρ2 => wk ρ2 (fun rk ρ3 => ∃ i l k j, ro = .br i ∧ look ρ3 rk = some (.int k) ∧ match fz1 ρ3 rv with
  | some (p, ρ4) => ρ4[i]? = some (some (.ow (.lst l))) ∧ ixN l.length k = some j ∧ P.nx (ρ4.set i (some (.ow (.lst (l.set j p)))))
  | none => False) P.ex) P.ex) P.ex
theorem qs_setIx {o k : Expr} {wv wo wk : WE} {tpos : Pos} (he : QE X C e wv) (ho : QE X C o wo) (hk : QE X C k wk) (ha : ∀ v, assign (.Subscript o k tpos) X.env v = (do
      let ov ← holding [v] (eval o X.env)
      let iv ← holding [v, ov] (eval k X.env)
      standAt tpos
      holding [v, ov, iv] (setItem ov iv v)
      release [v, ov, iv] []) := by intro _; rfl)
    (hs : swapsWithSole [.Subscript o k tpos] e pos.line X.env = pure false := by rfl) (hw : swappedStores [.Subscript o k tpos] e X.env = pure none := by rfl) (h1 : (assignEach [.Subscript o k tpos] X.env).map (·.2) = [assign (.Subscript o k tpos) X.env] := by rfl) :
    QS X C (.Assign [.Subscript o k tpos] e pos) (wSetIx wv wo wk) :=
  PS.imp (ps_asg he (pg_sub ho hk set_list ha) hs hw h1) fun D σ H ⟨G, ρ, ts, P, ft, S, w, d⟩ => ⟨G, ρ, ts, _, P.ex, S, w, fun rv ρ1 w v H1 S1 => ⟨G, ρ1, (rv, v) :: ts, _, P.ex, S1, w, fun ro ρ2 w x H2 S2 => ⟨G, ρ2, (ro, x) :: (rv, v) :: ts, _, P.ex, S2, w, fun rk ρ3 ⟨i, l, k, j, er, ek, w3⟩ y H3 S3 => by
    have hy := (S3.top List.mem_cons_self ek).int
    cases er
    split at w3
    · rename_i p ρ4 ef
      obtain ⟨e4, ej, w4⟩ := w3
      have S4 : Sta C.K G ρ3 ((rv, v) :: (.br i, x) :: ts) σ H3 := S3.pop.perm (List.Perm.swap _ _ _)
      have S5 := S4.fz1 ef
      obtain ⟨a, rfl, hσ, vs, ha, hr⟩ := S5.brOw mem1 e4
      refine ⟨a, vs, k, j, rfl, hy, ha, by rw [hr.length]; exact ej, ?_⟩
      have S6 := S5.mut (o := .lst (vs.set j v)) e4 hσ (p' := .lst (l.set j p)) ⟨_, upd_same, Reps.set j (S5.tmp _ List.mem_cons_self) hr⟩
      exact d.nx _ w4 _ _ S6.pop.pop
    · exact w3.elim, d.ex⟩, d.ex⟩, d.ex⟩
/-! ### methods of texts -/
def wStr2 (g : Str → Str → PV) (wa wb : WE) : WE := fun ρ Q E => wa ρ (fun ra ρ1 => ∃ x, look ρ1 ra = some (.str x) ∧ wb ρ1 (fun rb ρ2 => ∃ y, look ρ2 rb = some (.str y) ∧ Q (.fz (g x y)) ρ2) E) E
theorem qe_str2 {mid : String} {name : Str} {apos : Pos} {g : Str → Str → PV} {g' : Str → Str → V} {o : Expr} (s : ∀ x y, Sc (g x y) (g' x y)) (slot : Slot "str" name mid) (ty : typeOf (.builtin mid) = pure (.type "method_descriptor")) (rule : MtR X mid (fun x xs H Q => ∃ a b, x = .str a ∧ xs = [.str b] ∧ Q (g' a b) H)) (ho : QE X C o wa) (he : QE X C e wb)
    (hs : starEach [e] X.env = [(false, eval e X.env)] := by rfl) (hbase : attributeBase o name X.env (eval o X.env) = eval o X.env := by rfl) (hline : (apos.endLine == pos.line) = true := by rfl) : QE X C (.Call (.Attribute o name apos) [e] [] pos) (wStr2 g wa wb) :=
  PE.imp (pe_m1 slot ty rule ho he hs hbase hline) fun σ H Q ⟨G, ρ, ts, Q', E', S, w, q, ee⟩ => ⟨G, ρ, ts, _, E', S, w, fun ra ρ1 ⟨x, e1, w⟩ v H1 S1 => ⟨⟨x, (S1.top List.mem_cons_self e1).str⟩, G, ρ1, (ra, v) :: ts, _, E', S1, w, fun rb ρ2 ⟨y, e2, w⟩ u H2 S2 =>
    ⟨x, y, (S1.top List.mem_cons_self e1).str, by rw [(S2.top List.mem_cons_self e2).str], q _ _ w _ _ (S2.pop.pop.pushSc (s x y))⟩, ee⟩, ee⟩
def wStarts : WE → WE → WE := wStr2 fun a b => .bl (Txt.startswith a b)
def wEnds : WE → WE → WE := wStr2 fun a b => .bl (Txt.endswith a b)
theorem qe_startswith {apos : Pos} {o : Expr} (ho : QE X C o wa) (he : QE X C e wb) (hs : starEach [e] X.env = [(false, eval e X.env)] := by rfl) (hbase : attributeBase o "startswith" X.env (eval o X.env) = eval o X.env := by rfl) (hline : (apos.endLine == pos.line) = true := by rfl) : QE X C (.Call (.Attribute o "startswith" apos) [e] [] pos) (wStarts wa wb) :=
  qe_str2 (g' := fun a b => .bl (Txt.startswith a b)) (fun _ _ => rfl) PySem.F.slot_str_startswith PySem.F.type_str_startswith mt_startswith ho he hs hbase hline
theorem qe_endswith {apos : Pos} {o : Expr} (ho : QE X C o wa) (he : QE X C e wb) (hs : starEach [e] X.env = [(false, eval e X.env)] := by rfl) (hbase : attributeBase o "endswith" X.env (eval o X.env) = eval o X.env := by rfl) (hline : (apos.endLine == pos.line) = true := by rfl) : QE X C (.Call (.Attribute o "endswith" apos) [e] [] pos) (wEnds wa wb) :=
  qe_str2 (g' := fun a b => .bl (Txt.endswith a b)) (fun _ _ => rfl) PySem.F.slot_str_endswith PySem.F.type_str_endswith mt_endswith ho he hs hbase hline
/-- s.join(row of texts) -/
def wJoin (wa wb : WE) : WE := fun ρ Q E => wa ρ (fun ra ρ1 => ∃ x, look ρ1 ra = some (.str x) ∧ wb ρ1 (fun rb ρ2 => ∃ (p : PV) (ys : List Str), look ρ2 rb = some p ∧ itemsP p = some (ys.map PV.str) ∧ (ys.map (·.length)).sum + ys.length * x.length ≤ 16777216 ∧ Q (.fz (.str (Txt.join x ys))) ρ2) E) E
theorem qe_join {apos : Pos} {o : Expr} (hk : X.K = C.K) (ho : QE X C o wa) (he : QE X C e wb) (hs : starEach [e] X.env = [(false, eval e X.env)] := by rfl) (hbase : attributeBase o "join" X.env (eval o X.env) = eval o X.env := by rfl) (hline : (apos.endLine == pos.line) = true := by rfl) : QE X C (.Call (.Attribute o "join" apos) [e] [] pos) (wJoin wa wb) :=
  PE.imp (pe_join ho he hs hbase hline) fun σ H Q ⟨G, ρ, ts, Q', E', S, w, q, ee⟩ => ⟨G, ρ, ts, _, E', S, w, fun ra ρ1 ⟨x, e1, w⟩ v H1 S1 => ⟨⟨x, (S1.top List.mem_cons_self e1).str⟩, G, ρ1, (ra, v) :: ts, _, E', S1, w, fun rb ρ2 ⟨p, ys, e2, e3, hz, w⟩ u H2 S2 => by
    have t := S2.top List.mem_cons_self e2
    rw [hk]
    have fin := q _ _ w (.str (Txt.join x ys)) _ (S2.pop.pop.pushSc rfl)
    cases p with
    | tup l =>
      cases e3
      obtain ⟨a, vs, rfl, h1, h2⟩ := t
      rw [h2.strs] at h1
      exact ⟨x, a, ys, (S1.top List.mem_cons_self e1).str, rfl, .inr h1, hz, fin⟩
    | lst l =>
      cases e3
      obtain ⟨a, vs, rfl, h1, h2⟩ := t
      rw [h2.strs] at h1
      exact ⟨x, a, ys, (S1.top List.mem_cons_self e1).str, rfl, .inl (SqL.of h1), hz, fin⟩
    | _ => exact (by cases e3), ee⟩, ee⟩
/-- s.index(t) of a text that is in it -/
def wSIndex (wa wb : WE) : WE := fun ρ Q E => wa ρ (fun ra ρ1 => ∃ x, look ρ1 ra = some (.str x) ∧ wb ρ1 (fun rb ρ2 => ∃ y i rest, look ρ2 rb = some (.str y) ∧ Builtin.Str.occurrences x y 0 x.length 1 = i :: rest ∧ Q (.fz (.int (i : Nat))) ρ2) E) E
theorem qe_sindex {apos : Pos} {o : Expr} (ho : QE X C o wa) (he : QE X C e wb) (hs : starEach [e] X.env = [(false, eval e X.env)] := by rfl) (hbase : attributeBase o "index" X.env (eval o X.env) = eval o X.env := by rfl) (hline : (apos.endLine == pos.line) = true := by rfl) : QE X C (.Call (.Attribute o "index" apos) [e] [] pos) (wSIndex wa wb) :=
  PE.imp (pe_m1 PySem.F.slot_str_index PySem.F.type_str_index mt_sindex ho he hs hbase hline) fun σ H Q ⟨G, ρ, ts, Q', E', S, w, q, ee⟩ => ⟨G, ρ, ts, _, E', S, w, fun ra ρ1 ⟨x, e1, w⟩ v H1 S1 => ⟨⟨x, (S1.top List.mem_cons_self e1).str⟩, G, ρ1, (ra, v) :: ts, _, E', S1, w, fun rb ρ2 ⟨y, i, rest, e2, eo, w⟩ u H2 S2 =>
    ⟨x, y, i, rest, (S1.top List.mem_cons_self e1).str, by rw [(S2.top List.mem_cons_self e2).str], eo, q _ _ w _ _ (S2.pop.pop.pushSc rfl)⟩, ee⟩, ee⟩
end SyP
/-! Syncedwords, part 1: a set made of a tuple of texts, a text times a number, heaps but for one place. -/
namespace Sy
open PySem PySem.Spec PyProof.Rows

/-! ### the texts of a list, each once, as they are first met -/
def met (xs : List Str) : List Str := xs.foldl (fun acc x => if acc.any (· == x) then acc else acc ++ [x]) []
theorem met_snoc (xs : List Str) (x : Str) : met (xs ++ [x]) = if (met xs).any (· == x) then met xs else met xs ++ [x] := by
  unfold met
  rw [List.foldl_append]
  rfl
theorem met_take {xs : List Str} {i : Nat} (h : i < xs.length) : met (xs.take (i + 1)) = if (met (xs.take i)).any (· == xs[i]) then met (xs.take i) else met (xs.take i) ++ [xs[i]] := by
  rw [List.take_add_one, List.getElem?_eq_getElem h]
  exact met_snoc _ _
theorem any_mem {xs : List Str} {x : Str} : xs.any (· == x) = true ↔ x ∈ xs := by
  rw [List.any_eq_true]
  constructor
  · rintro ⟨y, hy, e⟩
    rw [← beq_iff_eq.mp e]
    exact hy
  · intro h
    exact ⟨x, h, beq_self_eq_true x⟩
/-- induction from the end -/
theorem snoc_ind {α : Type} {P : List α → Prop} (h0 : P []) (h1 : ∀ xs x, P xs → P (xs ++ [x])) (xs : List α) : P xs := by
  have h : ∀ r : List α, P r.reverse := by
    intro r
    induction r with
    | nil => exact h0
    | cons a r ih =>
      rw [List.reverse_cons]
      exact h1 _ _ ih
  have := h xs.reverse
  rw [List.reverse_reverse] at this
  exact this
theorem met_mem (k : Str) (xs : List Str) : k ∈ met xs ↔ k ∈ xs := by
  refine snoc_ind (P := fun xs => k ∈ met xs ↔ k ∈ xs) Iff.rfl (fun xs x ih => ?_) xs
  rw [met_snoc]
  by_cases h : (met xs).any (· == x) = true
  · rw [if_pos h]
    have hx := any_mem.mp h
    constructor
    · intro q
      exact List.mem_append_left _ (ih.mp q)
    · intro q
      rcases List.mem_append.mp q with q | q
      · exact ih.mpr q
      · rw [List.mem_singleton.mp q]
        exact hx
  · rw [if_neg h, List.mem_append, List.mem_append, ih]
theorem met_le (xs : List Str) : (met xs).length ≤ xs.length := by
  refine snoc_ind (P := fun xs => (met xs).length ≤ xs.length) (Nat.le_refl _) (fun xs x ih => ?_) xs
  rw [met_snoc, List.length_append]
  split
  · exact Nat.le_succ_of_le ih
  · rw [List.length_append]
    exact Nat.add_le_add_right ih _
theorem nodup_snoc {α : Type} {xs : List α} {x : α} : (xs ++ [x]).Nodup ↔ xs.Nodup ∧ x ∉ xs := by
  rw [List.nodup_append]
  constructor
  · rintro ⟨a, _, c⟩
    exact ⟨a, fun h => c x h x (List.mem_singleton.mpr rfl) rfl⟩
  · rintro ⟨a, b⟩
    refine ⟨a, List.nodup_cons.mpr ⟨by simp, List.nodup_nil⟩, fun y hy z hz e => ?_⟩
    rw [List.mem_singleton.mp hz] at e
    exact b (e ▸ hy)
theorem met_len (xs : List Str) : (met xs).length = xs.length ↔ xs.Nodup := by
  refine snoc_ind (P := fun xs => (met xs).length = xs.length ↔ xs.Nodup) (by simp [met]) (fun xs x ih => ?_) xs
  rw [met_snoc, nodup_snoc, List.length_append, ← ih]
  have hle := met_le xs
  by_cases h : (met xs).any (· == x) = true
  · rw [if_pos h]
    have hx : x ∈ xs := (met_mem x xs).mp (any_mem.mp h)
    constructor
    · intro q
      exfalso
      have : [x].length = 1 := rfl
      omega
    · rintro ⟨_, n⟩
      exact absurd hx n
  · rw [if_neg h, List.length_append]
    have hx : x ∉ xs := fun q => h (any_mem.mpr ((met_mem x xs).mpr q))
    constructor
    · intro q
      exact ⟨by omega, hx⟩
    · rintro ⟨q, _⟩
      rw [q]

/-! ### set(xs), xs a tuple of texts -/
section
variable {prog : Program} {w : World} {A : Around} {R : Result → Shared → Prop} {I : Addr} {fp wr : List Addr} {G : Array GenState → Array GenState → Prop} {n : Nat} {P : Nat → Value → Prop} {St : Nat → Shared → Prop}
/-- the machine's loop that puts the items in, from the i-th on -/
theorem set_loop (W : WalksS prog w A.in1 I fp wr G n P St) (S : Addr) (out : S ∉ fp) (xs : List Str) (hn : xs.length = n) (hb : n + 1 < scanBound) (val : ∀ i v, P i v → ∃ t, v = .str (xs.getD i Str.empty) t) :
    ∀ (k i : Nat) (s : Shared), n - i = k → i ≤ n → St i s → s.heap.SetOf (PySem.strKind prog w) S (fun y => (met (xs.take i)).any (· == y)) (met (xs.take i)).length →
      (∀ s', Moved (S :: wr) G s s' → s'.heap.SetOf (PySem.strKind prog w) S (fun y => (met xs).any (· == y)) (met xs).length → R (.ok (.ret .none)) s') →
      codeAny (model prog w) A (.builtin "set.update.loop" ⟨[.ref S, .ref I], []⟩) R s
  | 0, i, s, hk, hi, st, hS, fin => by
    obtain rfl : i = n := by omega
    refine codeAny_builtin PyProof.Rows.F.entry_set_update_loop ?_
    rw [Around.under_plainId PyProof.Rows.F.plain_set_update_loop _]
    show wpAny _ A.in1 (pyNext (.ref I) >>= _) _ _ s
    refine wpAny_bind (W.done s _ _ st fun s' hm => ?_)
    show wpAny _ A.in1 (ret Value.none) _ _ s'
    rw [List.take_of_length_le (Nat.le_of_eq hn)] at hS
    refine wpAny_pure (fin s' (hm.mono fun b hb => List.mem_cons_of_mem _ hb) ?_)
    obtain ⟨o, es, ep, t, ho, more⟩ := hS
    exact ⟨o, es, ep, t, hm.heap S _ (fun z => out (W.sub _ z)) ho, more⟩
  | k + 1, i, s, hk, hi, st, hS, fin => by
    have lt : i < n := by omega
    have ltx : i < xs.length := by omega
    refine codeAny_builtin PyProof.Rows.F.entry_set_update_loop ?_
    rw [Around.under_plainId PyProof.Rows.F.plain_set_update_loop _]
    show wpAny _ A.in1 (pyNext (.ref I) >>= _) _ _ s
    refine wpAny_bind (W.item i s _ _ lt st fun v s' hP st' hm => ?_)
    obtain ⟨t, rfl⟩ := val i v hP
    have ex : xs.getD i Str.empty = xs[i] := by
      rw [List.getD_eq_getElem?_getD, List.getElem?_eq_getElem ltx] <;> rfl
    rw [ex]
    have hS' : s'.heap.SetOf (PySem.strKind prog w) S (fun y => (met (xs.take i)).any (· == y)) (met (xs.take i)).length := by
      obtain ⟨o, es, ep, tb, ho, more⟩ := hS
      exact ⟨o, es, ep, tb, hm.heap S _ (fun z => out (W.sub _ z)) ho, more⟩
    show wpAny _ A.in1 (holding [Value.str xs[i] t] (setAdd S (.str xs[i] t)) >>= _) _ _ s'
    refine wpAny_bind (wpAny_holding ?_)
    unfold setAdd
    refine wpAny_holding ?_
    refine wpAny_bind ((PySem.strKind prog w).pyHash (k := xs[i]) (strKind_is _ _ _ _) ?_)
    have room : (met (xs.take i)).length + 1 < scanBound := by
      have h1 := met_le (xs.take i)
      rw [List.length_take] at h1
      omega
    refine wpAny_setAddHashed_of (knd := PySem.strKind prog w) (s := { s' with toks := s'.toks + 1 }) (strKind_is _ _ _ _) rfl hS' room fun h' sb new => ?_
    have next : h'.SetOf (PySem.strKind prog w) S (fun y => (met (xs.take (i + 1))).any (· == y)) (met (xs.take (i + 1))).length := by
      refine SetOf_congr new (fun y => ?_) ?_
      · rw [met_take ltx]
        by_cases q : (met (xs.take i)).any (· == xs[i]) = true
        · rw [if_pos q]
          by_cases e : y = xs[i]
          · subst e
            rw [q]
            rfl
          · rw [decide_eq_false e, Bool.or_false]
        · rw [if_neg q, List.any_append]
          congr 1
          rw [List.any_cons, List.any_nil, Bool.or_false]
          by_cases e : y = xs[i]
          · subst e
            rw [beq_self_eq_true, decide_eq_true rfl]
          · rw [decide_eq_false e]
            exact (beq_eq_false_iff_ne.mpr fun z => e z.symm).symm
      · rw [met_take ltx]
        by_cases q : (met (xs.take i)).any (· == xs[i]) = true
        · rw [if_pos q, if_pos q]
        · rw [if_neg q, if_neg q, List.length_append] <;> rfl
    refine wpAny_pure ⟨plainId_quiet PyProof.Rows.F.plain_set_update_loop _, set_loop W S out xs hn hb val k (i + 1) _ (by omega) lt (W.frame _ s' _ _ st' (Nat.le_succ _) fun b hb' o e => ?_) next fun s'' hm' hS'' => ?_⟩
    · rw [sb.2 b fun z => out (z ▸ hb')]
      exact e
    · refine fin s'' (Moved.trans W.gtrans ((hm.mono fun b hb' => List.mem_cons_of_mem _ hb').then_heap (Nat.le_succ _) fun b o hb' e => ?_) hm') hS''
      rw [sb.2 b fun z => hb' (z ▸ List.mem_cons_self)]
      exact e
end
section
variable {prog : Program} {w : World} {A : Around} {E : Value → Shared → Prop} {s : Shared}
/-- the empty set object as it is made -/
abbrev emptySet (led : Bool) : Obj := { cls := .type "set", dict := none, data := .set #[] 0 (.fresh 0 0 led) }
set_option maxHeartbeats 3200000 in
theorem call_set_txt {l : Addr} {items : Array Value} {xs : List Str} {Q : Value → Shared → Prop} (hh : A.handled = none) (hl : s.heap.IsTuple l items) (hi : PyProof.Rows.StrsAre items.toList xs) (hb : xs.length + 1 < scanBound)
    (h : ∀ (h' : Heap) (tk : Nat), h'.SetOf (PySem.strKind prog w) s.heap.objs.size (fun y => (met xs).any (· == y)) (met xs).length →
      (∀ b o, b < s.heap.objs.size → s.heap.get? b = some o → h'.get? b = some o) → Q (.ref s.heap.objs.size) { s with heap := h', toks := tk }) :
    wpAny (model prog w) A (call (.type "set") [.ref l]) Q E s := by
  obtain ⟨c, tl, hmro⟩ := PySem.F.called_set.mro
  have hmade := PySem.F.called_set.made
  have hsub := PySem.F.called_set.sub
  refine wpAny_call (codeAny_of_tree ?_)
  show wpAny _ _ (callAny (.type "set") _) _ _ _
  refine wpAny_pure ⟨Code.quiet_builtin _ (by decide +kernel), codeAny_builtin PySem.F.entry_type_call ?_⟩
  rw [Around.under_plain (weight_type_call_type "set" [.ref l] []) rfl]
  have h1 := PySem.F.called_set.notType
  have h2 := PySem.F.called_set.canCreate
  have hct := PySem.F.typeCall_set_1 (.ref l)
  repeat (any_goals (first | assumption | wp_step))
  refine codeAny_mono (code_set_new_1 (.ref l) (E := E) (Q₁ := fun obj s₁ => ∃ led : Bool, obj = .ref s.heap.objs.size ∧ s₁ = { s with heap := s.heap.push (emptySet led) }) fun led => ⟨led, rfl, rfl⟩) fun r s₁ hr => ?_
  cases r with
  | error e => exact hr
  | ok fl =>
    cases fl with
    | next => exact hr.elim
    | brk => exact hr.elim
    | cont => exact hr.elim
    | ret obj =>
    obtain ⟨led, rfl, rfl⟩ := hr
    have hS : (s.heap.push (emptySet led)).get? s.heap.objs.size = some (emptySet led) := Heap.get?_push_size _ rfl
    have hT : Shared.TypeIs { s with heap := s.heap.push (emptySet led) } (.ref s.heap.objs.size) "set" := ⟨_, hS, rfl⟩
    have hli := PySem.F.called_set.init.lookup
    have hbi := PySem.F.called_set.init.bind (.ref s.heap.objs.size)
    repeat (any_goals (first | assumption | wp_step))
    refine codeAny_mono (codeAny_call_builtin (R := wants (fun r s₂ => r = .none ∧ ∃ h' tk, s₂ = { s with heap := h', toks := tk } ∧ h'.SetOf (PySem.strKind prog w) s.heap.objs.size (fun y => (met xs).any (· == y)) (met xs).length ∧
      (∀ b o, b < s.heap.objs.size → s.heap.get? b = some o → h'.get? b = some o)) E) PySem.F.called_set.init.plain PySem.F.entry_set_init (check_set_init_1 hT ?_)) fun r₂ s₂ hr₂ => ?_
    · obtain ⟨⟨ocls, odict, odata, oslots⟩, hol, hcl, nl, hdl⟩ := hl
      simp only at hcl hdl
      subst hcl; subst hdl
      have hol' : (s.heap.push (emptySet led)).get? l = some { cls := .type "tuple", dict := odict, data := .seq items nl, slots := oslots } := Heap.get?_push_of_some _ hol
      have hsls := PySem.F.sub_tuple_set
      have hslf := PySem.F.sub_tuple_frozenset
      have hne : (Value.type "tuple" == Value.type "dict") = false := by decide
      have hl1 : (s.heap.push (emptySet led)).IsTuple l items := ⟨_, hol', rfl, nl, rfl⟩
      unfold Builtin.«set.__init__» noKeywords Builtin.Frozenset.updateFrom
      generalize hPI : pyIter = PI
      wp_walk
      subst hPI
      refine wpAny_pyIter_tuple hl1 ?_
      refine wpAny_bind (wpAny_runValue ?_)
      have hlS : l < s.heap.objs.size := Heap.lt_size hol
      have hh3 : A.in1.in1.in1.handled = none := by simp [hh]
      have hneI : l ≠ (s.heap.push (emptySet led)).objs.size := by
        rw [Heap.size_push]
        exact Nat.ne_of_lt (Nat.lt_succ_of_lt hlS)
      have out : s.heap.objs.size ∉ [(s.heap.push (emptySet led)).objs.size, l] := by
        rw [Heap.size_push]
        simp only [List.mem_cons, List.not_mem_nil, or_false, not_or]
        exact ⟨Nat.ne_of_lt (Nat.lt_succ_self _), Nat.ne_of_gt hlS⟩
      have hsz : xs.length = items.size := by rw [← StrsAre.len_eq hi, Array.length_toList]
      refine set_loop ((Walks.tuple hh3 _ l hneI items).toS) s.heap.objs.size out xs hsz (by omega) (fun i v hv => SS.strs_at hi i v (by rw [Array.getElem?_toList]; exact hv)) (items.size - 0) 0 _ (by omega) (Nat.zero_le _)
        ⟨⟨_, Heap.get?_push_size _ rfl, rfl, rfl⟩, (hl1.push _)⟩ ?h0 fun s' hm hS' => ?_
      case h0 =>
        refine PyProof.Rows.SetOf_congr ((PyProof.Rows.setObjOf_fresh (knd := PySem.strKind prog w) led).setOf (a := s.heap.objs.size) (Heap.get?_push_of_some _ hS) (by unfold scanBound; omega)) (fun _ => rfl) rfl
      obtain ⟨h', g', d', tk', os'⟩ := s'
      obtain rfl : g' = s.gens := hm.gens
      obtain rfl : d' = s.drawn := hm.drawn
      obtain rfl : os' = s.os := hm.os
      show wpAny _ _ _ _ _ _
      refine wpAny_pure ?_
      show wpAny _ _ (ret Value.none) _ _ _
      refine wpAny_pure ⟨rfl, h', tk', rfl, hS', fun b o hb' e => hm.heap b o ?_ (Heap.get?_push_of_some _ (Heap.get?_push_of_some _ e))⟩
      rw [Heap.size_push]
      simp only [List.mem_cons, List.not_mem_nil, or_false, not_or]
      exact ⟨Nat.ne_of_lt hb', Nat.ne_of_lt (Nat.lt_succ_of_lt hb')⟩
    · cases r₂ with
      | error e => exact hr₂
      | ok f2 =>
        cases f2 with
        | next => exact hr₂.elim
        | brk => exact hr₂.elim
        | cont => exact hr₂.elim
        | ret r =>
          obtain ⟨rfl, h', tk, rfl, hS', hk'⟩ := hr₂
          repeat (any_goals (first | assumption | wp_step))
          exact h _ _ hS' hk'
end
end Sy
namespace L2
open PySem PySem.Spec PyProof.Rows
section
variable {X : Cx}
/-- len(set(t)), t a tuple of texts: how many there are, each once -/
def tLenTxt (K : PySem.W.Frag) (ta : TE) : TE := fun σ H Q => ta σ H fun x H1 => ∃ (l : Addr) (xs : List Str), x = V.ref l ∧ SqT K H1 l (xs.map V.str) ∧ xs.length ≤ 1000 ∧ Q (.int ((Sy.met xs).length : Nat)) H1
theorem pe_lenTxt {a : Expr} {ta : TE} {p p2 q pos : Pos} (hc : X.calm = true) (hg : Gl X "len") (hm : X.mg "len" = none) (hg2 : Gl X "set") (hm2 : X.mg "set" = none) (ha : PE X a ta)
    (na : starEach [a] X.env = (false, eval a X.env) :: starEach [] X.env := by rfl) : PE X (.Call (.Name "len" p) [.Call (.Name "set" p2) [a] [] q] [] pos) (tLenTxt X.K ta) := by
  refine ⟨fun pins s σ H Q I h => ?_⟩
  refine Call_ (ld_blt I hg hm PySem.boot_len ?_)
  refine PyProof.Rows.callWith_builtin1 (PyProof.Rows.args_cons ?_ rfl) rfl rfl
  refine Call_ (ld_blt I hg2 hm2 PyProof.Rows.boot_set ?_)
  refine PyProof.Rows.callWith_type1 (PyProof.Rows.args_cons (thn (ha.run pins s σ H _ I h) fun v s1 ⟨x, H1, I1, r1, q1⟩ => PyProof.Rows.args_nil ?_) na) na rfl
  obtain ⟨l, xs, rfl, hq, hl, q1⟩ := q1
  cases r1
  obtain ⟨its, r, pl, hz⟩ := I1.tuple hq
  have hle := Sy.met_le xs
  refine Sy.call_set_txt (I1.ok.hd hc) pl (by simpa using strsAre_of r) (by unfold scanBound; omega) fun h' tk hS hk => ?_
  refine PyProof.Rows.args_nil ?_
  obtain ⟨o, es, ep, t, ho, hex, hd, _, _, _, hf, hn⟩ := hS
  have I2 : Inv X pins σ H1 { s1 with heap := h', toks := tk } := I1.kept fun b o e => hk b o (Heap.lt_size e) e
  exact call_len_set ho hex hd hf (by rw [hn] <;> omega) ⟨.int ((Sy.met xs).length : Nat), H1, I2.tok _, ⟨_, by rw [hn]⟩, q1⟩
/-- a text times a number -/
theorem op_mul_txt : OpR X (binaryOp .Mult) (fun x y H Q => ∃ z n, x = .str z ∧ y = .int n ∧ z.length ≤ 16 ∧ 0 ≤ n ∧ n ≤ 1000 ∧ Q (.str (Txt.mul z n)) H) := by
  intro pins s σ H x y v u Q I rx ry h
  obtain ⟨z, n, rfl, rfl, h1, h2, h3, q⟩ := h
  obtain ⟨t, rfl⟩ := rx
  obtain ⟨t', rfl⟩ := ry
  exact PySem.W.KXi.mul rfl h1 (by omega) (by omega) fun t' k _ _ => ⟨.str (Txt.mul z n), H, I.tok _, ⟨_, rfl⟩, q⟩
end
end L2
namespace Sy
open PySem PySem.Spec PyProof.Rows L2
/-! ### all that was tracked stands as it was, but what stands at a -/
def Keep (a : Addr) (H H' : Hp) : Prop := ∀ b o, b ≠ a → H b = some o → H' b = some o
theorem Keep.refl {a : Addr} (H : Hp) : Keep a H H := fun _ _ _ e => e
theorem Keep.trans {a : Addr} {H H1 H2 : Hp} (k : Keep a H H1) (l : Keep a H1 H2) : Keep a H H2 := fun b o n e => l b o n (k b o n e)
theorem Keep.of_same {a : Addr} {H H' : Hp} (s : Same H H') : Keep a H H' := fun b o _ e => s b o e
theorem Keep.new {a p : Addr} {o : HO} {H H1 : Hp} (k : Keep a H H1) (n : H1 p = none) : Keep a H (upd H1 p o) := fun b u nb e => by
  rw [upd_ne (ne_of_none (k b u nb e) n)]
  exact k b u nb e
theorem Keep.put {a : Addr} {o : HO} {H H1 : Hp} (k : Keep a H H1) : Keep a H (upd H1 a o) := fun b u nb e => by
  rw [upd_ne nb]
  exact k b u nb e
theorem Same.new {p : Addr} {o : HO} {H H1 : Hp} (k : Same H H1) (n : H1 p = none) : Same H (upd H1 p o) := fun b u e => by
  rw [upd_ne (ne_of_none (k b u e) n)]
  exact k b u e
theorem Same.tup {K : PySem.W.Frag} {H H' : Hp} {b : Addr} {xs : List V} (k : Same H H') (h : SqT K H b xs) : SqT K H' b xs := by
  rcases h with (h | ⟨o, h⟩) | h
  · exact .inl (.inl (k _ _ h))
  · exact .inl (.inr ⟨o, k _ _ h⟩)
  · exact .inr h
/-- what is tracked elsewhere is read as before -/
theorem Keep.lst {a b : Addr} {xs : List V} {H H' : Hp} (k : Keep a H H') (n : b ≠ a) (h : H b = some (.lst xs)) : H' b = some (.lst xs) := k b _ n h
theorem Keep.tup {K : PySem.W.Frag} {a b : Addr} {xs ys : List V} {H H' : Hp} (k : Keep a H H') (hs : H a = some (.lst ys)) (h : SqT K H b xs) : SqT K H' b xs := by
  rcases h with (h | ⟨o, h⟩) | h
  · exact .inl (.inl (k _ _ (ne_of h hs (by intro z; cases z)) h))
  · exact .inl (.inr ⟨o, k _ _ (ne_of h hs (by intro z; cases z)) h⟩)
  · exact .inr h
end Sy
set_option autoImplicit false
/-! Pure words 9: names of the module, sets of texts counted. -/
namespace SyP
open PySem PySem.Spec PyProof.Rows L2 Sy
variable {K : PySem.W.Frag} {sa : SA} {H H' Hm : Hp} {G : Gh} {ρ ρ' : En} {ts ts' : Ts} {σ σ' : L2.St} {C : CC} {X : Cx} {a b c : Expr} {pos p2 : Pos} {wa wb wc w : WE} {e : Expr} {es : List Expr} {wr : WA}
/-- numbers and texts of the module -/
def CI (mg : Str → Option Value) (x : Str) (i : Int) : Prop := ∃ t, mg x = some (.int i t)
def CS (mg : Str → Option Value) (x : Str) (i : Str) : Prop := ∃ t, mg x = some (.str i t)
theorem qe_gI {x : Str} {i : Int} (h : CI X.mg x i) (hg : Gl X x) (hd : (x == ("__debug__" : Str)) = false := by decide) : QE X C (.Name x pos) (wC (.int i)) := by
  obtain ⟨t, h⟩ := h
  exact qe_globSc (v := .int i) hg h ⟨t, rfl⟩ rfl hd
theorem qe_gS {x : Str} {i : Str} (h : CS X.mg x i) (hg : Gl X x) (hd : (x == ("__debug__" : Str)) = false := by decide) : QE X C (.Name x pos) (wC (.str i)) := by
  obtain ⟨t, h⟩ := h
  exact qe_globSc (v := .str i) hg h ⟨t, rfl⟩ rfl hd
/-- the built-in names that the module leaves as they are -/
def bltNames : List Str := ["isinstance", "str", "len", "all", "any", "tuple", "set", "list", "abs", "int", "bool", "range", "sum", "reversed", "zip", "enumerate", "min", "max", "sorted"]
def NoB (mg : Str → Option Value) : Prop := ∀ x ∈ bltNames, mg x = none
theorem u65 {k : Nat} {A : Around} (r : Room k A) : A.units + 65 < cLine := by have := r.un; omega
/-- len(set(t)), t a tuple of texts -/
def wLenSet (w : WE) : WE := fun ρ Q E => w ρ (fun r ρ' => ∃ xs : List Str, look ρ' r = some (.tup (xs.map PV.str)) ∧ xs.length ≤ 1000 ∧ Q (.fz (.int ((Sy.met xs).length : Nat))) ρ') E
theorem qe_lenSet {p q pos : Pos} (hk : X.K = C.K) (hc : X.calm = true) (hg : Gl X "len") (hm : X.mg "len" = none) (hg2 : Gl X "set") (hm2 : X.mg "set" = none) (ha : QE X C a wa)
    (na : starEach [a] X.env = (false, eval a X.env) :: starEach [] X.env := by rfl) : QE X C (.Call (.Name "len" p) [.Call (.Name "set" p2) [a] [] q] [] pos) (wLenSet wa) :=
  PE.imp (pe_lenTxt hc hg hm hg2 hm2 ha na) fun σ H Q ⟨G, ρ, ts, Q', E', S, w, q, ee⟩ => ⟨G, ρ, ts, _, E', S, w, fun r ρ' ⟨xs, e, hz, w⟩ v H' S' => by
    obtain ⟨l, vs, rfl, h1, h2⟩ := S'.top List.mem_cons_self e
    rw [h2.strs] at h1
    exact ⟨l, xs, rfl, hk ▸ h1, hz, q _ _ w _ _ (S'.pop.pushSc rfl)⟩, ee⟩
end SyP
set_option autoImplicit false
/-! Pure words 10: the least text of a list; the law itself. -/
namespace SyP
open PySem PySem.Spec PyProof.Rows L2 Sy
variable {K : PySem.W.Frag} {sa : SA} {H H' Hm : Hp} {G : Gh} {ρ ρ' : En} {ts ts' : Ts} {σ σ' : L2.St} {C : CC} {X : Cx} {a b c : Expr} {pos p2 : Pos} {wa wb wc w : WE} {e : Expr} {es : List Expr} {wr : WA}
/-! ### min of a list of texts -/
section
variable {prog : Program} {w : World} {A : Around} {E : Value → Shared → Prop} {s : Shared}
theorem cmp_strs {P : Nat → Value → Prop} (val : Nat → Str) (hv : ∀ i v, P i v → ∃ t, v = .str (val i) t) : CmpOf prog w A .Lt P (fun i j => decide ((val i).cps.toList < (val j).cps.toList)) := by
  intro i j vi vj s Q E hi hj h
  obtain ⟨t, rfl⟩ := hv i vi hi
  obtain ⟨u, rfl⟩ := hv j vj hj
  exact richCompare_gives (op := .Lt) (typeIs_str s _ t) (typeIs_str s _ u) F.slot_str_lt F.entry_str_lt (F.args_str_lt_2 _ _) (gives_str_lt _ _ t u) (fun x => nomatch x) h
theorem lex_not_lt {x y : List Nat} : ¬ x < y ↔ y ≤ x := List.not_lt
theorem best_strs (val : Nat → Str) : ∀ k, argBest (fun i j => decide ((val i).cps.toList < (val j).cps.toList)) k ≤ k ∧ ∀ j, j ≤ k → ¬ (val j).cps.toList < (val (argBest (fun i j => decide ((val i).cps.toList < (val j).cps.toList)) k)).cps.toList
  | 0 => ⟨Nat.le_refl _, fun j hj => by
    have : j = 0 := by omega
    subst this
    exact List.lt_irrefl _⟩
  | k + 1 => by
    obtain ⟨h1, h2⟩ := best_strs val k
    unfold argBest
    by_cases h : (val (k + 1)).cps.toList < (val (argBest (fun i j => decide ((val i).cps.toList < (val j).cps.toList)) k)).cps.toList
    · rw [if_pos (decide_eq_true h)]
      refine ⟨Nat.le_refl _, fun j hj z => ?_⟩
      by_cases e : j = k + 1
      · subst e
        exact List.lt_irrefl _ z
      · exact h2 j (by omega) (List.lt_trans z h)
    · rw [if_neg (by simpa using h)]
      refine ⟨by omega, fun j hj z => ?_⟩
      by_cases e : j = k + 1
      · subst e
        exact h z
      · exact h2 j (by omega) z
end
def rMinS (K : PySem.W.Frag) : List V → Hp → VK → Prop := fun vs H Q => ∃ (a : Addr) (xs : List Str), vs = [V.ref a] ∧ SqL K H a (xs.map V.str) ∧ 0 < xs.length ∧ ∀ m, m ∈ xs → (∀ y, y ∈ xs → ¬ y.cps.toList < m.cps.toList) → Q (.str m) H
theorem cr_minS (hc : X.calm = true) : CallR X (.builtin "min") (rMinS X.K) := by
  intro pins s σ H vs us Q I r h
  obtain ⟨a, xs, rfl, hs, hz, q⟩ := h
  obtain ⟨its, rv, p, hl⟩ := I.list hs
  have hn : its.length = xs.length := by
    have := rv.length
    rw [List.length_map] at this
    omega
  obtain ⟨u, rfl, rfl⟩ : ∃ u, us = [u] ∧ u = Value.ref a := by
    cases r with
    | cons r1 r2 =>
      cases r2
      exact ⟨_, rfl, r1⟩
  have vals : ∀ (i : Nat) (v : Value), its.toArray[i]? = some v → ∃ t, v = Value.str (xs.getD i "") t := fun i v e => by
    have e : its[i]? = some v := by simpa using e
    have hi := (List.getElem?_eq_some_iff.mp e).1
    have hx : (xs.map V.str)[i]? = some (V.str xs[i]) := by rw [List.getElem?_map, List.getElem?_eq_getElem (by omega)]; rfl
    obtain ⟨u, e1, e2⟩ := rv.get hx
    rw [e] at e1
    cases e1
    obtain ⟨t, rfl⟩ := e2
    exact ⟨t, by rw [List.getD_eq_getElem?_getD, List.getElem?_eq_getElem (by omega)]; rfl⟩
  refine call_min_walk (iter_anyList p.isList fun s₂ e st hfp _ => ?_)
  subst e
  obtain ⟨b1, b2⟩ := best_strs (fun i => xs.getD i "") (its.toArray.size - 1)
  refine ⟨_, _, _, _, _, _, _, rfl, Walks.list (A := X.A.in1) (I.ok.hd hc) _ a (by assumption) its.toArray, st, hfp, by simp; omega, cmp_strs (fun i => xs.getD i "") vals, fun v h' tk hP hk => ?_⟩
  obtain ⟨t, rfl⟩ := vals _ _ hP
  have kept := PySem.old_kept hk
  have hsz : its.toArray.size = xs.length := by simp [hn]
  refine ⟨V.str _, H, I.kept (h' := h') (t' := tk) kept, ⟨t, rfl⟩, q _ ?_ fun y hy => ?_⟩
  · rw [List.getD_eq_getElem?_getD, List.getElem?_eq_getElem (by omega)]
    exact List.getElem_mem _
  · obtain ⟨j, hj, rfl⟩ := List.mem_iff_getElem.mp hy
    have := b2 j (by omega)
    rw [List.getD_eq_getElem?_getD, List.getElem?_eq_getElem hj] at this
    exact this
/-- the text of a list of signs -/
def lt (l : List Nat) : Str := ⟨l.toArray⟩
def wMinS : WB := fun ρ rs Q => ∃ (ra : AV) (ls : List (List Nat)), rs = [ra] ∧ look ρ ra = some (.lst (ls.map fun l => PV.str (lt l))) ∧ 0 < ls.length ∧ ∀ m, m ∈ ls → (∀ y, y ∈ ls → m ≤ y) → Q (.fz (.str (lt m))) ρ
theorem cp_minS : CaP C wMinS (rMinS C.K) := CaP.one (fun _ _ _ ⟨a, _, e, _⟩ => ⟨a, e⟩) fun G ρ ts σ H ra v Q' Q S ⟨_, ls, e0, e, hz, w⟩ q => by
  cases e0
  obtain ⟨a, vs, rfl, h1, h2⟩ := S.top List.mem_cons_self e
  have em : (ls.map fun l => PV.str (lt l)) = (ls.map lt).map PV.str := by
    rw [List.map_map]
    rfl
  rw [em] at h2
  rw [h2.strs] at h1
  refine ⟨a, ls.map lt, rfl, SqL.of h1, by rw [List.length_map]; exact hz, fun m h1 h2 => ?_⟩
  obtain ⟨l, hl, rfl⟩ := List.mem_map.mp h1
  exact q _ _ (w l hl fun y hy => List.not_lt.mp (h2 (lt y) (List.mem_map_of_mem hy))) _ _ (S.pop.pushSc rfl)
/-! ### the law -/
def spLaw (K : PySem.W.Frag) : Sp := fun vs H Q _ => ∃ (a : Addr) (ns : List Int), vs = [.ref a] ∧ SqL K H a (ns.map V.int) ∧ ns.length ≤ 63 ∧ ∀ H', Q (.bl true) H'
def spStream (K : PySem.W.Frag) : Sp := fun vs H Q _ => ∃ (a : Addr) (ns : List Int), vs = [.ref a] ∧ SqL K H a (ns.map V.int) ∧ ns.length ≤ 63 ∧ ∀ l s H', Same H H' → H s = none → H l = none → Strm l H' s → Q (.ref s) H'
/-- what the law's body behind its first row must do -/
def LawOk (n : Nat) (ws : WS) : Prop := ws ⟨fun _ => False, fun r => r = .fz (.bl true), fun _ => False, fun _ => False, fun _ => False⟩ (none :: some (.fz .strm) :: List.replicate (n - 2) none)
theorem rep_strm {l s : Addr} (h : sa = some (l, s)) : Rep K sa H .strm (.ref s) := by
  unfold Rep
  exact ⟨l, s, h, rfl⟩
section
variable {P : Program} {w : World} {mg : Str → Option Value} {base : Heap} {x qual : Str} {st : Stmt} {f : Addr} {fd : FuncData} {N : List Str} {k : Nat} {ws : WS}
theorem law_ok (F : Fun K x qual st f fd) (S : FnScope N ["script"] (defScope st)) (hn : 2 ≤ N.length)
    (hbody : ∀ (cdv : Value) (A : Around) (outer : List Env) (s : Shared) (H : Hp) (E : XK), Room k (A.deeper (envOfC qual (defScope st) s.heap.objs.size f cdv)) →
      ∃ te s1 rest, defBody st = s1 :: rest ∧ PS (cxOf (L2.CX P w) P w K mg base N qual (defScope st) f cdv A outer s H E) s1 (tAsg te (gName 1)) ∧
        (∀ σ H Q, (∃ v, σ[0]? = some (some v) ∧ spStream K [v] H Q (fun _ _ _ => False)) → te σ H Q) ∧ QSs (cxOf (L2.CX P w) P w K mg base N qual (defScope st) f cdv A outer s H E) ⟨K, mg, E⟩ rest ws) (hw : LawOk N.length ws) :
    FnOk P w K mg base (L2.CX P w) (k + 1) f fd ["script"] (spLaw K) := by
  refine F.okX S (fun vs H Q E h => ?_) fun cdv A outer s H vs Q E hr h => ?_
  · obtain ⟨a, ns, rfl, _⟩ := h
    rfl
  obtain ⟨a, ns, rfl, hS, hl, q⟩ := h
  obtain ⟨te, s1, rest, eb, h1, h2, h3⟩ := hbody cdv A outer s H E hr
  rw [eb]
  refine ⟨_, pss_cons h1 h3, ?_⟩
  refine h2 _ _ _ ⟨.ref a, rfl, a, ns, rfl, hS, hl, fun l sx H' sm hs hl' hst => ?_⟩
  have eN : ∃ m, N.length = m + 2 := ⟨N.length - 2, by omega⟩
  obtain ⟨m, em⟩ := eN
  have e0 : (L2.start N [V.ref a]).set 1 (some (V.ref sx)) = some (.ref a) :: some (.ref sx) :: List.replicate m none := by
    unfold L2.start
    rw [em]
    rfl
  show tPS _ ws _ ((L2.start N [V.ref a]).set 1 (some (V.ref sx))) H'
  rw [e0]
  unfold LawOk at hw
  rw [em] at hw
  have no_ow : ∀ {i : Nat} {e : AV × V} {b : Addr}, SlAt (none :: some (.fz .strm) :: List.replicate m none) (some (.ref a) :: some (.ref sx) :: List.replicate m none) i e → OwAt e b → False := fun {i e b} hs ho => by
    obtain ⟨h1, _⟩ := hs
    obtain ⟨⟨p, hp⟩, _⟩ := ho
    rw [hp] at h1
    match i, h1 with
    | 0, h1 => cases h1
    | 1, h1 => cases h1
    | i + 2, h1 =>
      have h3 : (List.replicate m (none : Option AV))[i]? = some (some (AV.ow p)) := by simpa using h1
      have h4 := List.eq_of_mem_replicate (List.mem_of_getElem? h3)
      cases h4
  have no : ∀ {b : Addr}, ¬ Owns (none :: some (.fz .strm) :: List.replicate m none) [] (some (.ref a) :: some (.ref sx) :: List.replicate m none) b := fun {b} z => by
    rcases z with ⟨i, e, hs, ho⟩ | ⟨e, he, _⟩
    · exact no_ow hs ho
    · cases he
  obtain ⟨ne, xs, y, kk, g1, g2, g3, g4⟩ := id hst
  refine ⟨⟨some (l, sx), H', fun b => b = sx⟩, _, [], _, FzT.nil, ⟨by simp, Fra.refl, fun l2 s2 e => ?_, fun l2 s2 e => ?_, fun l2 s2 e => ?_, fun b hb => ?_, fun b hb => absurd hb no, fun i r e => ?_, fun e he => (nomatch he), fun i j e f b hs _ ho _ => (no_ow hs ho).elim, fun i e f b hs _ ho _ => no_ow hs ho, .nil, fun e he => (nomatch he)⟩, hw, ?_, ?_, ?_, ?_, ?_⟩
  · cases e
    exact hst
  · cases e
    rfl
  · cases e
    show H' l ≠ none
    rw [g1]
    exact fun z => nomatch z
  · have hb : b = sx := hb
    subst hb
    show H' b ≠ none
    rw [g3]
    exact fun z => nomatch z
  · match i, e with
    | 0, e => cases e
    | 1, e =>
      cases e
      refine ⟨.ref sx, rfl, ?_⟩
      unfold Ent
      exact rep_strm rfl
    | i + 2, e =>
      have h3 : (List.replicate m (none : Option AV))[i]? = some (some r) := by simpa using e
      have h4 := List.eq_of_mem_replicate (List.mem_of_getElem? h3)
      cases h4
  · exact fun ρ w => w.elim
  · intro r w v H2 h
    subst w
    obtain ⟨_, _, h⟩ := h
    have h : v = .bl true := by unfold Rep at h; exact h
    rw [h]
    exact q H2
  · exact fun ρ w => w.elim
  · exact fun ρ w => w.elim
  · exact fun e w => w.elim
end
end SyP
set_option autoImplicit false
/-! Pure words: loops and comprehensions by an invariant, by a map. -/
namespace SyP
open PySem PySem.Spec PyProof.Rows L2 Sy
/-- a for: I by the turns done; N stands for what comes behind the turn -/
theorem wLoop_by {wt : WTg} {wb : WS} {P : PD} {items : List PV} (I : Nat → En → Prop) {ρ : En} (h0 : I 0 ρ)
    (hs : ∀ i x ρ (N : En → Prop), items[i]? = some x → I i ρ → (∀ ρ', I (i + 1) ρ' → N ρ') → wt x ρ fun ρ' => wb { nx := N, rt := P.rt, bk := P.nx, ct := N, ex := P.ex } ρ') (hd : ∀ ρ, I items.length ρ → P.nx ρ) : wLoop wt wb P items ρ := by
  have key : ∀ (n i : Nat) (ρ : En), i + n = items.length → I i ρ → wLoop wt wb P (items.drop i) ρ := by
    intro n
    induction n with
    | zero =>
      intro i ρ e h
      have e : i = items.length := by omega
      subst e
      rw [List.drop_length]
      exact hd ρ h
    | succ n ih =>
      intro i ρ e h
      have hi : i < items.length := by omega
      rw [List.drop_eq_getElem_cons hi]
      exact hs i _ ρ _ (List.getElem?_eq_getElem hi) h fun ρ' h' => ih (i + 1) ρ' (by omega) h'
  exact key items.length 0 ρ (by omega) h0
/-- a comprehension whose turns are known -/
theorem wColl_map {turn : PV → (List PV → Prop) → Prop} {Q : List PV → Prop} (g : PV → List PV) : ∀ {items acc : List PV}, (∀ x ∈ items, ∀ Kk : List PV → Prop, Kk (g x) → turn x Kk) → Q (acc ++ items.flatMap g) → wColl turn items acc Q
  | [], acc, _, q => by
    rw [List.flatMap_nil, List.append_nil] at q
    exact q
  | x :: xs, acc, h, q => h x List.mem_cons_self _ (wColl_map g (fun y hy => h y (List.mem_cons_of_mem _ hy)) (by rw [List.flatMap_cons, ← List.append_assoc] at q; exact q))
/-- .. over a list that is the image of another one -/
theorem wColl_fm {α : Type} {turn : PV → (List PV → Prop) → Prop} {Q : List PV → Prop} (f : α → PV) (g : α → List PV) : ∀ {l : List α} {acc : List PV}, (∀ x ∈ l, ∀ Kk : List PV → Prop, Kk (g x) → turn (f x) Kk) → Q (acc ++ l.flatMap g) → wColl turn (l.map f) acc Q
  | [], acc, _, q => by
    rw [List.flatMap_nil, List.append_nil] at q
    exact q
  | x :: xs, acc, h, q => h x List.mem_cons_self _ (wColl_fm f g (fun y hy => h y (List.mem_cons_of_mem _ hy)) (by rw [List.flatMap_cons, ← List.append_assoc] at q; exact q))
theorem flatMap_one {α β : Type} (h : α → β) (l : List α) : l.flatMap (fun x => [h x]) = l.map h := by
  induction l with
  | nil => rfl
  | cons x l ih => rw [List.flatMap_cons, ih]; rfl
theorem flatMap_if {α β : Type} (c : α → Bool) (h : α → β) (l : List α) : l.flatMap (fun x => if c x = true then [h x] else []) = (l.filter c).map h := by
  induction l with
  | nil => rfl
  | cons x l ih =>
    rw [List.flatMap_cons, ih, List.filter_cons]
    cases c x <;> rfl
/-- what is neither a dict nor the stream -/
def okV : PV → Prop
  | .dic _ _ => False
  | .strm => False
  | _ => True
theorem eqp_int (i j : Int) : eqp (.int i) (.int j) = decide (i = j) := by
  unfold eqp pd PyData.eqv
  rw [Bool.eq_iff_iff]
  simp
theorem eqp_str (x y : Str) : eqp (.str x) (.str y) = decide (x = y) := by
  unfold eqp pd PyData.eqv
  rw [Bool.eq_iff_iff]
  simp
theorem fl_int {n : Nat} {i : Int} : Fl n (.int i) = True := by cases n <;> rfl
theorem fl_bl {n : Nat} {i : Bool} : Fl n (.bl i) = True := by cases n <;> rfl
theorem fl_non {n : Nat} : Fl n .non = True := by cases n <;> rfl
theorem fl_str {n : Nat} {x : Str} : Fl n (.str x) = (PyData.strOk x = true) := by cases n <;> rfl
end SyP
set_option autoImplicit false
/-! Pure words: texts as lists of signs; cuts of lists. -/
namespace SyP
open PySem PySem.Spec PyProof.Rows L2 Sy
abbrev pS (l : List Nat) : PV := .str (lt l)
theorem lt_app (a b : List Nat) : lt a ++ lt b = lt (a ++ b) := by
  show (⟨a.toArray ++ b.toArray⟩ : Str) = ⟨(a ++ b).toArray⟩
  simp
theorem lt_len (a : List Nat) : (lt a).length = a.length := rfl
theorem lt_cps (a : List Nat) : (lt a).cps.toList = a := rfl
theorem lt_inj {a b : List Nat} : (lt a = lt b) = (a = b) := propext ⟨fun h => by
  have h : (lt a).cps.toList = (lt b).cps.toList := by rw [h]
  exact h, fun h => by rw [h]⟩
theorem lt_of (z : Str) : lt z.cps.toList = z := rfl
theorem signs_lt (a : List Nat) : SyP.signs (lt a) = a.map fun c => .str (lt [c]) := rfl
theorem cutS_lt (a : List Nat) (lo hi : Option Int) : cutS (lt a) lo hi = lt (cutL a lo hi) := rfl
/-- signs that a text may hold -/
def okT (l : List Nat) : Prop := ∀ c ∈ l, c < 1114112
theorem strOk_lt (l : List Nat) : (PyData.strOk (lt l) = true) = okT l := propext (by
  unfold PyData.strOk lt okT
  simp)
section
variable {α : Type} (l : List α)
theorem cutL_to (k : Nat) : cutL l none (some (k : Int)) = l.take k := by
  unfold cutL
  rw [HT.sIx_none, HT.sIx_nat, List.drop_zero, Nat.sub_zero]
  rcases Nat.le_total k l.length with h | h
  · rw [Nat.min_eq_left h]
  · rw [Nat.min_eq_right h, List.take_length, List.take_of_length_le h]
theorem cutL_from (k : Nat) : cutL l (some (k : Int)) none = l.drop k := by
  unfold cutL
  rw [HT.sIx_none, HT.sIx_nat, List.take_of_length_le (by rw [List.length_drop]; omega)]
  rcases Nat.le_total k l.length with h | h
  · rw [Nat.min_eq_left h]
  · rw [Nat.min_eq_right h, List.drop_of_length_le (Nat.le_refl _), List.drop_of_length_le h]
theorem cutL_mid (a b : Nat) : cutL l (some (a : Int)) (some (b : Int)) = (l.take b).drop a := by
  unfold cutL
  rw [HT.sIx_nat, HT.sIx_nat, List.drop_take]
  rcases Nat.le_total a l.length with h | h
  · rw [Nat.min_eq_left h]
    rcases Nat.le_total b l.length with g | g
    · rw [Nat.min_eq_left g]
    · rw [Nat.min_eq_right g, List.take_of_length_le (by rw [List.length_drop]; omega), List.take_of_length_le (by rw [List.length_drop]; omega)]
  · rw [Nat.min_eq_right h, List.drop_of_length_le (Nat.le_refl _), List.drop_of_length_le h, List.take_nil, List.take_nil]
end
theorem exm_same {K : PySem.W.Frag} {C : Addr} (h1 : PySem.W.subIn K (.ref C) (.type "BaseException") = some true) (h2 : PySem.W.isClsIn K C = true) (h3 : PySem.W.typeIn K (.ref C) = some (.type "type")) (h4 : PySem.W.subIn K (.ref C) (.ref C) = some true) : PySem.W.exmOne K (.ref C) (.ref C) = some true := by
  unfold PySem.W.isClsIn at h2
  unfold PySem.W.exmOne PySem.W.kitCls
  simp only [h1, h2, h3, h4, beq_self_eq_true, Bool.and_self, if_true]
end SyP
/-! Syncedwords: sorted of a tuple of texts, enumerate of a tuple. -/
namespace SyQ
open PySem PySem.Spec PyProof.Rows
section
variable {pr : Program} {wd : World} {U : Around} {Er : Value → Shared → Prop} {g : Shared}
/-- the heap once the items us were put into a new list -/
abbrev gathered (h : Heap) (us : List Value) : Heap := (h.push (seqObj "list" #[] 0)).update h.objs.size (Obj.mapSeq (· ++ us.toArray))
theorem gather_tup {t : Addr} {us : List Value} {Qs : List Value → Shared → Prop} (ht : g.heap.IsTuple t us.toArray) (hus : us.length ≤ sizeLine) (hq : Qs us { g with heap := gathered g.heap us }) : wpAny (model pr wd) U (collect (.ref t)) Qs Er g := by
  obtain ⟨ob, hob, hcl, nn, hdt⟩ := id ht
  have hob' : (g.heap.push (seqObj "list" #[] 0)).get? t = some ob := Heap.get?_push_of_some _ hob
  have hnew : (g.heap.push (seqObj "list" #[] 0)).get? g.heap.objs.size = some (seqObj "list" #[] 0) := Heap.get?_push_size _ rfl
  have hty : (Value.type "tuple" == Value.type "tuple") = true := by rfl
  unfold collect
  refine wpAny_bind (wpAny_runValue (codeAny_builtin entry_proto_collect' ?_))
  show wpAny _ _ (do again (.builtin "list.__iadd__" ⟨[← newList [], .ref t], []⟩)) _ _ g
  refine wpAny_bind (wpAny_newList (wpAny_pure (And.intro (Code.quiet_builtin _ (by decide +kernel)) (codeAny_builtin entry_list_iadd' ?_))))
  show wpAny _ _ (Builtin.List.listExtendWith (.ref g.heap.objs.size) (.ref t) (.ref g.heap.objs.size)) _ _ { g with heap := g.heap.push (seqObj "list" #[] 0) }
  unfold Builtin.List.listExtendWith
  refine wpAny_bind (wpAny_typeOf (T := "tuple") ⟨ob, hob', hcl⟩ ?_)
  rw [if_pos (by rw [hty, Bool.or_true])]
  refine wpAny_bind (listItems_at hob' hdt (wpAny_bind (listItems_at (xs := #[]) (n := 0) hnew rfl ?_)))
  rw [if_neg (by simp)]
  refine wpAny_bind (listUpdate_at (xs := #[]) (n := 0) hnew rfl (wpAny_pure ?_) (Nat.zero_le _) ?_)
  · refine wpAny_bind (wpAny_load (get?_update_seq hnew _) ?_)
    show wpAny _ _ (pure ((#[] : Array Value) ++ us.toArray).toList) _ _ _
    rw [show ((#[] : Array Value) ++ us.toArray).toList = us by simp]
    exact wpAny_pure hq
  · show (#[] ++ us.toArray).size ≤ sizeLine + 1
    rw [Array.size_append, List.size_toArray]
    show 0 + us.length ≤ sizeLine + 1
    omega
theorem sorted_tupTxt {t : Addr} {us : List Value} {zs : List Str} {Qv : Value → Shared → Prop} (ht : g.heap.IsTuple t us.toArray) (hz : StrsAre us zs) (few : us.length < 64)
    (hq : ∀ (out : Array Value) (ys : List Str), StrsAre out.toList ys → ys.Perm zs → sortedS ys = true → Qv (.ref (g.heap.objs.size + 1)) { g with heap := sortedAll g.heap us out }) :
    wpAny (model pr wd) U (call (.builtin "sorted") [.ref t]) Qv Er g := by
  have hle : us.length ≤ sizeLine := by
    rw [sizeLine_eq]
    omega
  have hsg : (gathered g.heap us).objs.size = g.heap.objs.size + 1 := by rw [Heap.size_update, size_push']
  have hl : ((gathered g.heap us).push (seqObj "list" us.toArray 0)).get? (g.heap.objs.size + 1) = some (seqObj "list" us.toArray 0) := by
    rw [← hsg]
    exact Heap.get?_push_size _ rfl
  refine Calls.call_function_entry kind_sorted plain_sorted entry_sorted (args_sorted1 _) ?_
  unfold Builtin.«sorted»
  refine wpAny_bind (m := checkCount "sorted" 1 1 _) (wpAny_pure (wpAny_bind (gather_tup ht hle (wpAny_bind (wpAny_newList ?_)))))
  show wpAny _ _ _ _ _ { g with heap := (gathered g.heap us).push (seqObj "list" us.toArray 0) }
  rw [hsg]
  refine wpAny_bind (wpAny_holding (wpAny_call_entry slot_list_sort ⟨_, hl, rfl⟩ entry_list_sort
    (list_sort_treeK strKind_oneLt hl hz.keysOf (fun a b r e => keyKind_strs (by rw [← e]; exact hz)) few fun st hp hs => ⟨_, rfl, wpAny_pure ⟨_, rfl, ?_⟩⟩) (args_list_sort _)))
  obtain ⟨ys, h1, h2, h3⟩ := sorted_out_str hz hp hs
  exact hq _ ys h1 h2 h3
/-! ### enumerate(t) -/
set_option maxHeartbeats 1000000 in
theorem meets_enum_tup (t : Addr) (us : Array Value) :
    Meets (Builtin.«enumerate.__new__» ⟨[.type "enumerate", .ref t], []⟩) (fun _ R s => s.heap.IsTuple t us ∧
      R (.ok (.ret (.ref (s.heap.objs.size + 1)))) { s with heap := (s.heap.push { cls := .type "tuple_iterator", data := .fields #[.ref t, .int 0 0] }).push { cls := .type "enumerate", data := .fields #[.none, .bool false, .ref s.heap.objs.size, rawInt 0, .none, .none] } }) :=
  .of_wp fun prog w A R s h => by
    obtain ⟨hp, g, d, tk, os⟩ := s
    obtain ⟨ht, h⟩ := h
    have hsub := sub_enumerate
    have ht2 : Heap.IsTuple (Shared.heap ⟨hp, g, d, tk, os⟩) t us := ht
    obtain ⟨ob, hob, hcl, nn, hdt⟩ := id ht
    have hsz : (hp.push { cls := .type "tuple_iterator", data := .fields #[.ref t, .int 0 0] }).objs.size = hp.objs.size + 1 := Heap.size_push ..
    replace h : R (.ok (.ret (.ref (hp.push { cls := .type "tuple_iterator", data := .fields #[.ref t, .int 0 0] }).objs.size))) ⟨(hp.push { cls := .type "tuple_iterator", data := .fields #[.ref t, .int 0 0] }).push { cls := .type "enumerate", data := .fields #[.none, .bool false, .ref hp.objs.size, rawInt 0, .none, .none] }, g, d, tk, os⟩ := by
      rw [hsz]
      exact h
    wp_walk using wpAny_loadPart' hob
    refine wpAny_stack_any fun st => wpAny_pure ?_
    split
    · rename_i c _ _ _ _ _
      cases (c == Value.type "enumerate") <;> (wp_walk using wpAny_loadPart' hob, wpAny_pyIter_tuple ht2) <;> exact ⟨_, rfl, h⟩
    · wp_walk using wpAny_loadPart' hob, wpAny_pyIter_tuple ht2
      exact ⟨_, rfl, h⟩
theorem call_enum_tup {t : Addr} {us : Array Value} {Qv : Value → Shared → Prop} (ht : g.heap.IsTuple t us)
    (hq : ∀ h', IsEnum h' (g.heap.objs.size + 1) g.heap.objs.size 0 .none → h'.IsTupleIter g.heap.objs.size t 0 → (∀ b o, g.heap.get? b = some o → h'.get? b = some o) → Qv (.ref (g.heap.objs.size + 1)) { g with heap := h' }) :
    wpAny (model pr wd) U (call (.type "enumerate") [.ref t]) Qv Er g := by
  refine callType_new F.called_enumerate (by decide) (F.typeCall_enumerate_1 _) (F.newCall_enumerate_1 _) (fun obj => F.args_object_init_2 obj _) F.entry_enumerate_new (meets_enum_tup t us) ⟨ht, ?_⟩
  have hsz : (g.heap.push { cls := .type "tuple_iterator", data := .fields #[.ref t, .int 0 0] }).objs.size = g.heap.objs.size + 1 := Heap.size_push ..
  have he : ((g.heap.push { cls := .type "tuple_iterator", data := .fields #[.ref t, .int 0 0] }).push { cls := .type "enumerate", data := .fields #[.none, .bool false, .ref g.heap.objs.size, rawInt 0, .none, .none] }).get? (g.heap.objs.size + 1) = some { cls := .type "enumerate", data := .fields #[.none, .bool false, .ref g.heap.objs.size, rawInt 0, .none, .none] } := by
    rw [← hsz]
    exact Heap.get?_push_size _ rfl
  exact ⟨⟨_, he, rfl⟩, hq _ he ⟨_, Heap.get?_push_of_some _ (Heap.get?_push_size _ rfl), rfl, rfl⟩ fun b o e => Heap.get?_push_of_some _ (Heap.get?_push_of_some _ e)⟩
end
end SyQ
namespace L2
open PySem PySem.Spec PyProof.Rows
/-- sorted(t), t a tuple of texts, fewer than 64 -/
def rSortTT (K : PySem.W.Frag) : List V → Hp → VK → Prop := fun vs H Q => ∃ (a : Addr) (zs : List Str), vs = [V.ref a] ∧ SqT K H a (zs.map V.str) ∧ zs.length < 64 ∧ ∀ (ys : List Str) (p : Addr), ys.Perm zs → sortedS ys = true → H p = none → Q (.ref p) (upd H p (.lst (ys.map V.str)))
theorem cr_sortTT {X : Cx} : CallR X (.builtin "sorted") (rSortTT X.K) := by
  intro pins s σ H vs us Q I r h
  obtain ⟨a, zs, rfl, hs, few, q⟩ := h
  obtain ⟨its, rv, hl, _⟩ := I.tuple hs
  rw [Vals.ref1 r]
  have hlen := rv.length
  rw [List.length_map] at hlen
  refine SyQ.sorted_tupTxt hl rv.strs (by omega) fun out ys h1 h2 h3 => ?_
  obtain ⟨ep, he⟩ := PyProof.Rows.sortedAll_at s.heap its out
  have hys : (ys.map V.str).length ≤ sizeLine := by
    rw [List.length_map, h2.length_eq, sizeLine_eq]
    omega
  refine ⟨.ref _, upd H (s.heap.objs.size + 1) (.lst (ys.map V.str)), I.laid (t' := s.toks) (fun _ _ => PyProof.Rows.sortedAll_old) (Nat.le_succ _) ?_, rfl, q ys _ h2 h3 (I.hok.fresh (Nat.le_succ _))⟩
  exact ⟨hys, out.toList, ep, vals_of_strs h1, he⟩
/-! ### enumerate(t) -/
/-- the tuple at a, each item in a new pair with its place -/
def Ity (K : PySem.W.Frag) (a : Addr) : It where
  go := fun i H => ∃ (xs : List V) (x : V), SqT K H a xs ∧ xs[i]? = some x
  yld := fun i H v H' => ∃ T x, v = .ref T ∧ H T = none ∧ H' = upd H T (.tup [.int (i : Nat), x]) ∧ ∀ ys, SqT K H a ys → ys[i]? = some x
  stop := fun i H => ∃ xs : List V, SqT K H a xs ∧ xs.length ≤ i
theorem apart {h : Heap} {a b : Addr} {us : Array Value} {o : Obj} (ht : h.IsTuple a us) (hb : h.get? b = some o) (hc : o.cls ≠ .type "tuple") : a ≠ b := fun e => by
  obtain ⟨ob, h1, h2, _⟩ := ht
  rw [e, hb] at h1
  cases Option.some.inj h1
  exact hc h2
theorem turn_enumT {P : Program} {w : World} {K : PySem.W.Frag} {elts : List Expr} {kk : Nat} {tpos : Pos} (a e it : Addr) :
    Turn P w K (.Tuple elts kk tpos) (Ity K a) [e, it] e (fun i h => e ≠ it ∧ h.IsTupleIter it a i ∧ ∃ old, IsEnum h e it (i : Nat) old) where
  mem := List.mem_cons_self
  obj := fun i h st b hb => by
    obtain ⟨_, ⟨o, ho, _, hd⟩, old, he⟩ := st
    rcases List.mem_cons.mp hb with z | z
    · subst z
      exact ⟨_, he, fun v q => nomatch q⟩
    · rw [List.mem_singleton.mp z]
      exact ⟨o, ho, fun v q => by rw [hd] at q; cases q⟩
  keep := fun i h h' st k => (let ⟨n, hi, old, he⟩ := st; ⟨n, hi.at fun o q => k it (List.mem_cons_of_mem _ (List.mem_singleton.mpr rfl)) o q, old, k e List.mem_cons_self _ he⟩)
  item := by
    intro X hP hw hK hc i pins s σ H E I hf st hg
    subst hP hw hK
    obtain ⟨n, hit, old, he⟩ := st
    obtain ⟨xs, x, hq, hx⟩ := hg
    obtain ⟨its, rv, p, hz⟩ := I.tuple hq
    have p' : s.heap.IsTuple a its.toArray := p
    have hel : e < s.heap.objs.size := Heap.lt_size he
    obtain ⟨oi, hoi, hci, hdi⟩ := id hit
    have hil := Heap.lt_size hoi
    have nai : a ≠ it := apart p' hoi (by rw [hci]; decide)
    have nae : a ≠ e := apart p' he (show (Value.type "enumerate" : Value) ≠ .type "tuple" by decide)
    have hix : i < its.toArray.size := by
      have h1 := (List.getElem?_eq_some_iff.mp hx).1
      have h2 := rv.length
      rw [List.size_toArray]
      omega
    have hcalm : X.A.in1.handled = none := I.ok.hd hc
    refine wpAny_pyNext_enum_itemD (Draws.tuple hcalm it a nai its.toArray) he ⟨hit, p'⟩ hix n (by
      intro z
      rcases List.mem_cons.mp z with z | z
      · exact n z
      · exact nae (List.mem_singleton.mp z).symm) fun u h' tk hu ho st' hT hsz hk => ?_
    obtain ⟨u', hu', ru⟩ := rv.get hx
    have eu : u = u' := by
      rw [List.getElem?_toArray] at hu
      rw [hu] at hu'
      exact Option.some.inj hu'
    subst eu
    refine ⟨_, rfl, wpAny_letOwnedTupleGo_enum (s := { s with heap := h', toks := tk + 1 }) ho fun h2 he2 sb => ?_⟩
    have hT2 : h2.get? s.heap.objs.size = some { cls := .type "tuple", data := .seq #[.int i tk, u] } := (sb.2 _ (Nat.ne_of_gt hel)).trans hT
    have old2 : ∀ b o, b ∉ [e, it] → s.heap.get? b = some o → h2.get? b = some o := fun b o hb q => (sb.2 b fun z => hb (by rw [z]; exact List.mem_cons_self)).trans
      (hk b o (fun z => hb (by rw [z]; exact List.mem_cons_self)) (fun z => hb (by rw [z]; exact List.mem_cons_of_mem _ (List.mem_singleton.mpr rfl))) q)
    have J : Inv X pins σ (upd H s.heap.objs.size (.tup [.int (i : Nat), x])) { s with heap := h2, toks := tk + 1 } :=
      I.turnedNew (ch := [e, it]) old2 hf (Nat.le_refl _) ⟨(by show 2 ≤ sizeLine; decide), [.int i tk, u], .cons ⟨_, rfl⟩ (.cons ru .nil), ⟨_, hT2, rfl, _, rfl⟩⟩
    refine ⟨.ref s.heap.objs.size, _, J, rfl, ⟨_, x, rfl, I.hok.fresh (Nat.le_refl _), rfl, fun ys hy => by rw [I.tuple_inj hy hq]; exact hx⟩, ⟨n, st'.1.at fun o q => (sb.2 it n.symm).trans q, _, he2⟩, fun b hb => ?_⟩
    have hb2 : b ≠ s.heap.objs.size := by
      rcases List.mem_cons.mp hb with z | z
      · rw [z]
        exact Nat.ne_of_lt hel
      · rw [List.mem_singleton.mp z]
        exact Nat.ne_of_lt hil
    rw [upd_ne hb2]
    exact (hf b hb).1
  done := by
    intro X hP hw hK hc i pins s σ H E I hf st hg
    subst hP hw hK
    obtain ⟨n, hit, old, he⟩ := st
    obtain ⟨xs, hq, hx⟩ := hg
    obtain ⟨its, rv, p, hz⟩ := I.tuple hq
    have p' : s.heap.IsTuple a its.toArray := p
    obtain ⟨oi, hoi, hci, hdi⟩ := id hit
    have nai : a ≠ it := apart p' hoi (by rw [hci]; decide)
    obtain ⟨f0, f1, f2, f3, f4, f5⟩ := hf it (List.mem_cons_of_mem _ (List.mem_singleton.mpr rfl))
    have hcalm : X.A.in1.handled = none := I.ok.hd hc
    have hl := rv.length
    have D : Draws X.prog X.w X.A.in1 it [it, a] i (fun _ _ => True) (fun j h => j = i ∧ h.IsTupleIter it a i ∧ h.IsTuple a its.toArray) := {
      live := fun _ _ st => (let ⟨_, ⟨o, ho, _⟩, _⟩ := st; ⟨o, ho⟩)
      frame := fun _ _ _ st k => ⟨st.1, st.2.1.at fun o q => k it List.mem_cons_self o q, st.2.2.at fun o q => k a (List.mem_cons_of_mem _ (List.mem_singleton.mpr rfl)) o q⟩
      item := fun j _ _ _ hj st _ => absurd st.1 (Nat.ne_of_lt hj)
      done := fun _ _ _ st hE => wpAny_nextOf_tuple_end hcalm st.2.1 st.2.2 (by rw [List.getElem?_toArray]; exact List.getElem?_eq_none (by omega)) hE }
    exact wpAny_pyNext_enum_endD D he ⟨rfl, hit, p'⟩ fun h' eb => ⟨rfl, I.turned (t' := s.toks) (fun b o hb q => eb b o hb q) f0 f1 f3 f4 f5⟩
  self := fun A i s Q E st h => (let ⟨_, _, _, he⟩ := st; wpAny_pyIter_enum he h)
def iEnumT (K : PySem.W.Frag) (ta : TA) : TI := fun σ H R => ta σ H fun vs H1 => ∃ a xs, vs = [.ref a] ∧ SqT K H1 a xs ∧ R (Ity K a) H1
theorem pi_enumT {X : Cx} {e : Expr} {ta : TA} {p pos tpos : Pos} {elts : List Expr} {kk : Nat} (hg : Gl X "enumerate") (hm : X.mg "enumerate" = none) (ha : PA X [e] ta) (hs : starEach [e] X.env = [(false, eval e X.env)] := by rfl) :
    PI X (.Tuple elts kk tpos) (.Call (.Name "enumerate" p) [e] [] pos) (iEnumT X.K ta) := by
  refine ⟨fun pins s σ H R I h => Call_ (ld_blt I hg hm boot_enumerate (PyProof.Rows.callWith_type1 (thn (ha.run pos pins s σ H _ I h) fun us s1 ⟨vs, H1, I1, r1, a, xs, ev, hq, q⟩ => ?_) hs rfl))⟩
  subst ev
  obtain ⟨its, rv, p', hz⟩ := I1.tuple hq
  rw [Vals.ref1 r1]
  have p2 : s1.heap.IsTuple a its.toArray := p'
  refine SyQ.call_enum_tup p2 fun h' he hit kp => wpAny_pyIter_enum he ?_
  have J : Inv X pins σ H1 { s1 with heap := h' } := I1.kept (t' := s1.toks) kp
  refine ⟨s1.heap.objs.size + 1, [s1.heap.objs.size + 1, s1.heap.objs.size], _, _, H1, rfl, J, turn_enumT a (s1.heap.objs.size + 1) s1.heap.objs.size, ⟨Nat.succ_ne_self _, hit, .none, he⟩, fun b hb => ?_, q⟩
  have hle : s1.heap.objs.size ≤ b := by
    rcases List.mem_cons.mp hb with z | z
    · rw [z]
      exact Nat.le_succ _
    · rw [List.mem_singleton.mp z]
      exact Nat.le_refl _
  exact I1.fpOk hle (I1.hok.fresh hle)
theorem walk_enumT {K : PySem.W.Frag} {a : Addr} {xs : List V} : Walk (Ity K a) xs.length (fun H => SqT K H a xs) (YPair (fun i => some (.int (i : Nat))) (fun i => xs[i]?)) :=
  ⟨fun i _ hi q => ⟨xs, xs[i], q, List.getElem?_eq_getElem hi⟩, fun _ q => ⟨xs, q, Nat.le_refl _⟩, fun i H v H' _ q y => (let ⟨T, x, h1, h2, h3, h4⟩ := y; ⟨T, .int (i : Nat), x, h1, h2, h3, rfl, h4 xs q⟩)⟩
end L2
set_option autoImplicit false
/-! Pure words: enumerate, zip, reversed as what is walked. -/
namespace SyP
open PySem PySem.Spec PyProof.Rows L2 Sy
variable {K : PySem.W.Frag} {sa : SA} {H H' Hm : Hp} {G : Gh} {ρ ρ' : En} {ts ts' : Ts} {σ σ' : L2.St} {C : CC} {X : Cx} {a b c : Expr} {pos p2 : Pos} {wa wb wc w : WE} {e : Expr} {es : List Expr} {wr : WA}
def seqOf : PV → Option (List PV)
  | .tup l => some l
  | .lst l => some l
  | _ => none
/-- pairs of a place and an item -/
def enP (l : List PV) : List PV := l.zipIdx.map fun x => .tup [.int (x.2 : Nat), x.1]
theorem enP_get {l : List PV} {i : Nat} {p : PV} (h : l[i]? = some p) : (enP l)[i]? = some (.tup [.int (i : Nat), p]) := by
  unfold enP
  rw [List.getElem?_map, List.getElem?_zipIdx, h]
  simp
theorem enP_length {l : List PV} : (enP l).length = l.length := by simp [enP]
/-- pairs of items -/
def zpP (l m : List PV) : List PV := (l.zip m).map fun x => .tup [x.1, x.2]
theorem zpP_get {l m : List PV} {i : Nat} {p q : PV} (h : l[i]? = some p) (g : m[i]? = some q) : (zpP l m)[i]? = some (.tup [p, q]) := by
  unfold zpP
  rw [List.getElem?_map, show (l.zip m)[i]? = some (p, q) from List.getElem?_zip_eq_some.mpr ⟨h, g⟩]
  rfl
theorem zpP_length {l m : List PV} : (zpP l m).length = min l.length m.length := by simp [zpP]
theorem pair_new {us : Ts} {T : Addr} {x y : V} {p q : PV} (S : Sta K G ρ ts σ H) (n : H T = none) (h1 : Rep K G.sa (msk (OA G ρ ts σ) H) p x) (h2 : Rep K G.sa (msk (OA G ρ ts σ) H) q y) : Sta K G ρ ((.fz (.tup [p, q]), .ref T) :: ts) σ (upd H T (.tup [x, y])) :=
  S.newTup n (.cons h1 (.cons h2 .nil))
theorem it_enum {a : Addr} {l : List PV} : ItOk K (Ite K a) [(.fz (.lst l), .ref a)] (enP l) where
  fz := FzT.one
  go := fun i G ρ ts σ H hi S => by
    obtain ⟨b, vs, e, h1, h2⟩ := S.top (r := .fz (.lst l)) List.mem_cons_self rfl
    cases e
    have hl := h2.length
    rw [enP_length] at hi
    exact walk_enum.goes i H (by omega) (SqL.of h1)
  stop := fun G ρ ts σ H S => by
    obtain ⟨b, vs, e, h1, h2⟩ := S.top (r := .fz (.lst l)) List.mem_cons_self rfl
    cases e
    rw [enP_length, ← h2.length]
    exact walk_enum.stops H (SqL.of h1)
  yld := fun i G ρ ts σ H x H' hi S y => by
    obtain ⟨b, vs, e, h1, h2⟩ := S.top (r := .fz (.lst l)) List.mem_cons_self rfl
    cases e
    rw [enP_length] at hi
    have hl := h2.length
    obtain ⟨T, x0, y0, rfl, n, rfl, ex, ey⟩ := walk_enum.yields i H x H' (by omega) (SqL.of h1) y
    cases ex
    obtain ⟨p, e1, e2⟩ := h2.get' ey
    exact ⟨_, enP_get e1, pair_new (us := []) S n (by unfold Rep; rfl) e2⟩
theorem it_enumT {a : Addr} {l : List PV} : ItOk K (L2.Ity K a) [(.fz (.tup l), .ref a)] (enP l) where
  fz := FzT.one
  go := fun i G ρ ts σ H hi S => by
    obtain ⟨b, vs, e, h1, h2⟩ := S.top (r := .fz (.tup l)) List.mem_cons_self rfl
    cases e
    have hl := h2.length
    rw [enP_length] at hi
    exact L2.walk_enumT.goes i H (by omega) h1
  stop := fun G ρ ts σ H S => by
    obtain ⟨b, vs, e, h1, h2⟩ := S.top (r := .fz (.tup l)) List.mem_cons_self rfl
    cases e
    rw [enP_length, ← h2.length]
    exact L2.walk_enumT.stops H h1
  yld := fun i G ρ ts σ H x H' hi S y => by
    obtain ⟨b, vs, e, h1, h2⟩ := S.top (r := .fz (.tup l)) List.mem_cons_self rfl
    cases e
    rw [enP_length] at hi
    have hl := h2.length
    obtain ⟨T, x0, y0, rfl, n, rfl, ex, ey⟩ := L2.walk_enumT.yields i H x H' (by omega) h1 y
    cases ex
    obtain ⟨p, e1, e2⟩ := h2.get' ey
    exact ⟨_, enP_get e1, pair_new (us := []) S n (by unfold Rep; rfl) e2⟩
def iEnumA (K : PySem.W.Frag) (te : TE) : TI := fun σ H R => te σ H fun v H1 => ∃ (a : Addr) (xs : List V), v = .ref a ∧ ((SqL K H1 a xs ∧ R (Ite K a) H1) ∨ (SqT K H1 a xs ∧ R (L2.Ity K a) H1))
theorem pi_enumA {te : TE} {p tpos : Pos} {elts : List Expr} {kk : Nat} (hg : Gl X "enumerate") (hm : X.mg "enumerate" = none) (he : PE X e te) (hs : starEach [e] X.env = (false, eval e X.env) :: starEach [] X.env := by rfl) :
    PI X (.Tuple elts kk tpos) (.Call (.Name "enumerate" p) [e] [] pos) (iEnumA X.K te) := by
  refine ⟨fun pins s σ H R I h => ?_⟩
  refine Call_ (ld_blt I hg hm boot_enumerate (PyProof.Rows.callWith_type1 (args_cons (thn (he.run pins s σ H _ I h) fun u s1 ⟨v, H1, I1, r1, q1⟩ => args_nil ?_) hs) hs rfl))
  obtain ⟨a, xs, ev, q⟩ := q1
  subst ev
  obtain rfl : u = Value.ref a := r1
  have two : ∀ c, c ∈ [s1.heap.objs.size + 1, s1.heap.objs.size] → s1.heap.objs.size ≤ c := fun c hc => by
    rcases List.mem_cons.mp hc with z | z
    · rw [z]
      exact Nat.le_succ _
    · rw [List.mem_singleton.mp z]
      exact Nat.le_refl _
  rcases q with ⟨hq, q⟩ | ⟨hq, q⟩
  · obtain ⟨its, rv, p', hz⟩ := I1.list hq
    refine call_enumerate_list p'.isList fun h' he hit hsz hk => wpAny_pyIter_enum he ?_
    have J : Inv X pins σ H1 { s1 with heap := h' } := I1.kept (t' := s1.toks) hk
    exact ⟨s1.heap.objs.size + 1, [s1.heap.objs.size + 1, s1.heap.objs.size], _, _, H1, rfl, J, turn_enum a (s1.heap.objs.size + 1) s1.heap.objs.size, ⟨⟨.none, he⟩, hit, Nat.succ_ne_self _⟩, fun b hb => I1.fpOk (two b hb) (I1.hok.fresh (two b hb)), q⟩
  · obtain ⟨its, rv, p', hz⟩ := I1.tuple hq
    have p2 : s1.heap.IsTuple a its.toArray := p'
    refine SyQ.call_enum_tup p2 fun h' he hit kp => wpAny_pyIter_enum he ?_
    have J : Inv X pins σ H1 { s1 with heap := h' } := I1.kept (t' := s1.toks) kp
    exact ⟨s1.heap.objs.size + 1, [s1.heap.objs.size + 1, s1.heap.objs.size], _, _, H1, rfl, J, L2.turn_enumT a (s1.heap.objs.size + 1) s1.heap.objs.size, ⟨Nat.succ_ne_self _, hit, .none, he⟩, fun b hb => I1.fpOk (two b hb) (I1.hok.fresh (two b hb)), q⟩
/-- enumerate(x), a list or a tuple -/
def wiEnum (we : WE) : WI := fun ρ Q E => we ρ (fun r ρ1 => match fz1 ρ1 r with
  | some (p, ρ2) => match seqOf p with
    | some l => Q (enP l) ρ2
    | none => False
  | none => False) E
theorem qi_enum {we : WE} {p tpos : Pos} {elts : List Expr} {kk : Nat} (hk : X.K = C.K) (hg : Gl X "enumerate") (hm : X.mg "enumerate" = none) (he : QE X C e we) (hs : starEach [e] X.env = (false, eval e X.env) :: starEach [] X.env := by rfl) :
    QI X C (.Tuple elts kk tpos) (.Call (.Name "enumerate" p) [e] [] pos) (wiEnum we) :=
  PI.imp (pi_enumA hg hm he hs) fun σ H R ⟨G, ρ, ts, Q', E', S, w, q, ee⟩ => ⟨G, ρ, ts, _, E', S, w, fun r ρ1 w v H1 S1 => by
    rw [hk]
    split at w
    · rename_i p ρ2 ef
      have S2 := S1.fz1 ef
      split at w
      · rename_i l el
        have t := S2.top List.mem_cons_self rfl
        cases p with
        | tup l' =>
          cases el
          obtain ⟨a, vs, rfl, h1, h2⟩ := t
          exact ⟨a, vs, rfl, .inr ⟨h1, q _ _ w _ [(.fz (.tup l), .ref a)] _ S2 it_enumT⟩⟩
        | lst l' =>
          cases el
          obtain ⟨a, vs, rfl, h1, h2⟩ := t
          exact ⟨a, vs, rfl, .inl ⟨SqL.of h1, q _ _ w _ [(.fz (.lst l), .ref a)] _ S2 it_enum⟩⟩
        | _ => cases el
      · exact w.elim
    · exact w.elim, ee⟩
/-! ### zip -/
theorem FzT.two {p q : PV} {v u : V} : FzT [(.fz p, v), (.fz q, u)] := fun e he => by
  rcases List.mem_cons.mp he with h | h
  · rw [h]
    exact ⟨_, rfl⟩
  · rw [List.mem_singleton.mp h]
    exact ⟨_, rfl⟩
theorem it_zip {a b : Addr} {l m : List PV} : ItOk K (Itz K a b) [(.fz (.lst l), .ref a), (.fz (.lst m), .ref b)] (zpP l m) where
  fz := FzT.two
  go := fun i G ρ ts σ H hi S => by
    obtain ⟨a', vs, e, h1, h2⟩ := S.top (r := .fz (.lst l)) List.mem_cons_self rfl
    cases e
    obtain ⟨b', us, e, g1, g2⟩ := S.top (r := .fz (.lst m)) (List.mem_cons_of_mem _ List.mem_cons_self) rfl
    cases e
    have hl := h2.length
    have gl := g2.length
    rw [zpP_length] at hi
    exact (walk_zip rfl).goes i H (by omega) ⟨SqL.of h1, SqL.of g1⟩
  stop := fun G ρ ts σ H S => by
    obtain ⟨a', vs, e, h1, h2⟩ := S.top (r := .fz (.lst l)) List.mem_cons_self rfl
    cases e
    obtain ⟨b', us, e, g1, g2⟩ := S.top (r := .fz (.lst m)) (List.mem_cons_of_mem _ List.mem_cons_self) rfl
    cases e
    rw [zpP_length, ← h2.length, ← g2.length]
    exact (walk_zip rfl).stops H ⟨SqL.of h1, SqL.of g1⟩
  yld := fun i G ρ ts σ H x H' hi S y => by
    obtain ⟨a', vs, e, h1, h2⟩ := S.top (r := .fz (.lst l)) List.mem_cons_self rfl
    cases e
    obtain ⟨b', us, e, g1, g2⟩ := S.top (r := .fz (.lst m)) (List.mem_cons_of_mem _ List.mem_cons_self) rfl
    cases e
    have hl := h2.length
    have gl := g2.length
    rw [zpP_length] at hi
    obtain ⟨T, x0, y0, rfl, n, rfl, ex, ey⟩ := (walk_zip rfl).yields i H x H' (by omega) ⟨SqL.of h1, SqL.of g1⟩ y
    obtain ⟨p, e1, e2⟩ := h2.get' ex
    obtain ⟨q, e3, e4⟩ := g2.get' ey
    exact ⟨_, zpP_get e1 e3, pair_new (us := []) S n e2 e4⟩
theorem walk_zipT {a b : Addr} {xs ys : List V} {n : Nat} (hn : n = min xs.length ys.length) : Walk (RZ.ItzT K a b) n (fun H => SqT K H a xs ∧ SqT K H b ys) (YPair (fun i => xs[i]?) (fun i => ys[i]?)) := by
  subst hn
  refine ⟨fun i _ hi q => ?_, fun _ q => ⟨xs, ys, q.1, q.2, by omega⟩, fun i H v H' _ q y => ?_⟩
  · have h1 : i < xs.length := by omega
    have h2 : i < ys.length := by omega
    exact ⟨xs, ys, xs[i], ys[i], q.1, q.2, by simp [h1], by simp [h2]⟩
  · obtain ⟨T, x, z, h1, h2, h3, h4, h5⟩ := y
    exact ⟨T, x, z, h1, h2, h3, h4 xs q.1, h5 ys q.2⟩
theorem it_zipT {a b : Addr} {l m : List PV} : ItOk K (RZ.ItzT K a b) [(.fz (.tup l), .ref a), (.fz (.tup m), .ref b)] (zpP l m) where
  fz := FzT.two
  go := fun i G ρ ts σ H hi S => by
    obtain ⟨a', vs, e, h1, h2⟩ := S.top (r := .fz (.tup l)) List.mem_cons_self rfl
    cases e
    obtain ⟨b', us, e, g1, g2⟩ := S.top (r := .fz (.tup m)) (List.mem_cons_of_mem _ List.mem_cons_self) rfl
    cases e
    have hl := h2.length
    have gl := g2.length
    rw [zpP_length] at hi
    exact (walk_zipT rfl).goes i H (by omega) ⟨h1, g1⟩
  stop := fun G ρ ts σ H S => by
    obtain ⟨a', vs, e, h1, h2⟩ := S.top (r := .fz (.tup l)) List.mem_cons_self rfl
    cases e
    obtain ⟨b', us, e, g1, g2⟩ := S.top (r := .fz (.tup m)) (List.mem_cons_of_mem _ List.mem_cons_self) rfl
    cases e
    rw [zpP_length, ← h2.length, ← g2.length]
    exact (walk_zipT rfl).stops H ⟨h1, g1⟩
  yld := fun i G ρ ts σ H x H' hi S y => by
    obtain ⟨a', vs, e, h1, h2⟩ := S.top (r := .fz (.tup l)) List.mem_cons_self rfl
    cases e
    obtain ⟨b', us, e, g1, g2⟩ := S.top (r := .fz (.tup m)) (List.mem_cons_of_mem _ List.mem_cons_self) rfl
    cases e
    have hl := h2.length
    have gl := g2.length
    rw [zpP_length] at hi
    obtain ⟨T, x0, y0, rfl, n, rfl, ex, ey⟩ := (walk_zipT rfl).yields i H x H' (by omega) ⟨h1, g1⟩ y
    obtain ⟨p, e1, e2⟩ := h2.get' ex
    obtain ⟨q, e3, e4⟩ := g2.get' ey
    exact ⟨_, zpP_get e1 e3, pair_new (us := []) S n e2 e4⟩
/-- zip(x, y), two lists or two tuples -/
def wiZip (wr : WA) : WI := fun ρ Q E => wr ρ (fun rs ρ1 => match fzAll ρ1 rs with
  | some ([.lst l, .lst m], ρ2) => Q (zpP l m) ρ2
  | some ([.tup l, .tup m], ρ2) => Q (zpP l m) ρ2
  | _ => False) E
theorem qi_zip {p tpos : Pos} {elts : List Expr} {kk : Nat} (hk : X.K = C.K) (hg : Gl X "zip") (hm : X.mg "zip" = none) (ha : QA X C [a, b] wr)
    (hs : starEach [a, b] X.env = (false, eval a X.env) :: starEach [b] X.env := by rfl) (hpl : (backTo pos (starEach [b] X.env)).any (·.1) = false := by rfl) :
    QI X C (.Tuple elts kk tpos) (.Call (.Name "zip" p) [a, b] [] pos) (wiZip wr) :=
  PI.imp (RZ.pi_zipA hg hm ha hs hpl) fun σ H R ⟨G, ρ, ts, Q', E', S, w, q, ee⟩ => ⟨G, ρ, ts, _, E', S, w, fun rs ρ1 w vs H1 hl S1 => by
    rw [hk]
    have key : ∀ {ps : List PV} {ρ2 : En}, fzAll ρ1 rs = some (ps, ρ2) → ps.length = 2 → ∃ x y, vs = [x, y] := fun {ps ρ2} ef h2 => by
      have := (S1.fzAll hl ef).1
      match vs with
      | [x, y] => exact ⟨x, y, rfl⟩
      | [] => rw [h2] at this; cases this
      | [_] => rw [h2] at this; cases this
      | _ :: _ :: _ :: _ => rw [h2] at this; cases this
    split at w
    · rename_i l m ρ2 ef
      obtain ⟨x, y, rfl⟩ := key ef rfl
      have S2 := (S1.fzAll hl ef).2
      obtain ⟨a, xs, rfl, h1, h2⟩ := S2.top (r := .fz (.lst l)) (v := x) List.mem_cons_self rfl
      obtain ⟨b, ys, rfl, g1, g2⟩ := S2.top (r := .fz (.lst m)) (v := y) (List.mem_cons_of_mem _ List.mem_cons_self) rfl
      exact ⟨a, b, xs, ys, rfl, .inl ⟨SqL.of h1, SqL.of g1, q _ _ w _ [(.fz (.lst l), .ref a), (.fz (.lst m), .ref b)] _ S2 it_zip⟩⟩
    · rename_i l m ρ2 ef
      obtain ⟨x, y, rfl⟩ := key ef rfl
      have S2 := (S1.fzAll hl ef).2
      obtain ⟨a, xs, rfl, h1, h2⟩ := S2.top (r := .fz (.tup l)) (v := x) List.mem_cons_self rfl
      obtain ⟨b, ys, rfl, g1, g2⟩ := S2.top (r := .fz (.tup m)) (v := y) (List.mem_cons_of_mem _ List.mem_cons_self) rfl
      exact ⟨a, b, xs, ys, rfl, .inr ⟨h1, g1, q _ _ w _ [(.fz (.tup l), .ref a), (.fz (.tup m), .ref b)] _ S2 it_zipT⟩⟩
    · exact w.elim, ee⟩
/-! ### reversed -/
theorem it_rev {a : Addr} {l : List PV} : ItOk K (Itv K a l.length) [(.fz (.lst l), .ref a)] l.reverse where
  fz := FzT.one
  go := fun i G ρ ts σ H hi S => by
    obtain ⟨b, vs, e, h1, h2⟩ := S.top (r := .fz (.lst l)) List.mem_cons_self rfl
    cases e
    rw [List.length_reverse] at hi
    rw [← h2.length] at hi ⊢
    exact walk_rev.goes i H hi (SqL.of h1)
  stop := fun G ρ ts σ H S => by
    obtain ⟨b, vs, e, h1, h2⟩ := S.top (r := .fz (.lst l)) List.mem_cons_self rfl
    cases e
    rw [List.length_reverse, ← h2.length]
    exact walk_rev.stops H (SqL.of h1)
  yld := fun i G ρ ts σ H x H' hi S y => by
    obtain ⟨b, vs, e, h1, h2⟩ := S.top (r := .fz (.lst l)) List.mem_cons_self rfl
    cases e
    rw [List.length_reverse] at hi
    rw [← h2.length] at y
    obtain ⟨rfl, e⟩ := walk_rev.yields i H x H' (by rw [h2.length]; exact hi) (SqL.of h1) y
    obtain ⟨p, e1, e2⟩ := h2.get' e
    rw [h2.length] at e1
    exact ⟨p, by rw [List.getElem?_reverse hi]; exact e1, S.push e2⟩
theorem it_revT {a : Addr} {l : List PV} : ItOk K (RT.ItvT K a l.length) [(.fz (.tup l), .ref a)] l.reverse where
  fz := FzT.one
  go := fun i G ρ ts σ H hi S => by
    obtain ⟨b, vs, e, h1, h2⟩ := S.top (r := .fz (.tup l)) List.mem_cons_self rfl
    cases e
    rw [List.length_reverse] at hi
    have hl := h2.length
    exact ⟨hi, vs, vs[l.length - 1 - i]'(by omega), h1, List.getElem?_eq_getElem _⟩
  stop := fun G ρ ts σ H S => by
    rw [List.length_reverse]
    exact Nat.le_refl _
  yld := fun i G ρ ts σ H x H' hi S y => by
    obtain ⟨b, vs, e, h1, h2⟩ := S.top (r := .fz (.tup l)) List.mem_cons_self rfl
    cases e
    rw [List.length_reverse] at hi
    obtain ⟨rfl, e⟩ := y
    obtain ⟨p, e1, e2⟩ := h2.get' (e vs h1)
    exact ⟨p, by rw [List.getElem?_reverse hi]; exact e1, S.push e2⟩
/-- reversed(x), a list or a tuple -/
def wiRev (we : WE) : WI := fun ρ Q E => we ρ (fun r ρ1 => match fz1 ρ1 r with
  | some (p, ρ2) => match seqOf p with
    | some l => Q l.reverse ρ2
    | none => False
  | none => False) E
theorem qi_rev {tg : Expr} {we : WE} {p : Pos} (hk : X.K = C.K) (hg : Gl X "reversed") (hm : X.mg "reversed" = none) (he : QE X C e we) (hs : starEach [e] X.env = (false, eval e X.env) :: starEach [] X.env := by rfl) :
    QI X C tg (.Call (.Name "reversed" p) [e] [] pos) (wiRev we) :=
  PI.imp (RT.pi_revA hg hm he hs) fun σ H R ⟨G, ρ, ts, Q', E', S, w, q, ee⟩ => ⟨G, ρ, ts, _, E', S, w, fun r ρ1 w v H1 S1 => by
    rw [hk]
    split at w
    · rename_i p ρ2 ef
      have S2 := S1.fz1 ef
      split at w
      · rename_i l el
        have t := S2.top List.mem_cons_self rfl
        cases p with
        | tup l' =>
          cases el
          obtain ⟨a, vs, rfl, h1, h2⟩ := t
          exact ⟨a, vs, rfl, .inr ⟨h1, by rw [h2.length]; exact q _ _ w _ [(.fz (.tup l), .ref a)] _ S2 it_revT⟩⟩
        | lst l' =>
          cases el
          obtain ⟨a, vs, rfl, h1, h2⟩ := t
          exact ⟨a, vs, rfl, .inl ⟨SqL.of h1, by rw [h2.length]; exact q _ _ w _ [(.fz (.lst l), .ref a)] _ S2 it_rev⟩⟩
        | _ => cases el
      · exact w.elim
    · exact w.elim, ee⟩
theorem it_revR {lo : Int} {n : Nat} : ItOk K (Itc (lo + (n : Int) - 1) (-1) n) [] (rgI lo n).reverse where
  fz := FzT.nil
  go := fun i G ρ ts σ H hi S => by
    rw [List.length_reverse, rgI_length] at hi
    exact hi
  stop := fun G ρ ts σ H S => by
    rw [List.length_reverse, rgI_length]
    exact Nat.le_refl _
  yld := fun i G ρ ts σ H x H' hi S y => by
    rw [List.length_reverse, rgI_length] at hi
    obtain ⟨rfl, rfl⟩ := walk_rangeC.yields i H x H' hi trivial y
    refine ⟨.int (lo + (n - 1 - i : Nat)), ?_, S.pushSc (show V.int _ = V.int _ by congr 1; omega)⟩
    rw [List.getElem?_reverse (by rw [rgI_length]; exact hi), rgI_length]
    exact rgI_get (by omega)
/-- reversed(range(n)) -/
def wiRevR1 (we : WE) : WI := fun ρ Q E => we ρ (fun r ρ1 => ∃ j, look ρ1 r = some (.int j) ∧ rOk j ∧ Q (rgI 0 j.toNat).reverse ρ1) E
theorem qi_revR1 {tg : Expr} {we : WE} {p q p3 : Pos} (hg : Gl X "reversed") (hm : X.mg "reversed" = none) (hg2 : Gl X "range") (hm2 : X.mg "range" = none) (he : QE X C e we)
    (na : starEach [e] X.env = (false, eval e X.env) :: starEach [] X.env := by rfl)
    (hs : starEach [.Call (.Name "range" q) [e] [] p3] X.env = (false, eval (.Call (.Name "range" q) [e] [] p3) X.env) :: starEach [] X.env := by rfl) :
    QI X C tg (.Call (.Name "reversed" p) [.Call (.Name "range" q) [e] [] p3] [] pos) (wiRevR1 we) :=
  PI.imp (pi_revR hg hm (prg_1 hg2 hm2 he na) hs) fun σ H R ⟨G, ρ, ts, Q', E', S, w, q, ee⟩ => ⟨G, ρ, ts, _, E', S, w, fun r ρ1 ⟨j, ej, hj, w⟩ v H1 S1 => by
    refine ⟨j, (S1.top (r := r) List.mem_cons_self ej).int, by decide, by decide, hj.1, hj.2, ?_⟩
    have e : (j - 0).toNat = j.toNat := by rw [Int.sub_zero]
    rw [e]
    exact q _ _ w _ [] _ S1.pop it_revR, ee⟩
end SyP
/-! Syncedwords: texts and tuples from their end. -/
namespace L2
open PySem PySem.Spec PyProof.Rows
theorem fm_congr {α β : Type} {f g : α → Option β} : ∀ {l : List α}, (∀ a ∈ l, f a = g a) → l.filterMap f = l.filterMap g
  | [], _ => rfl
  | a :: l, h => by rw [List.filterMap_cons, List.filterMap_cons, h a List.mem_cons_self, fm_congr fun b hb => h b (List.mem_cons_of_mem _ hb)]
theorem rev_str (z : Str) (t u : Tok) : sliceMade z t none none (some (-1, u)) = Made.str ⟨(TL.tl z).reverse.toArray⟩ := by
  unfold sliceMade
  have h1 : (((some ((-1 : Int), u)).map (·.1)).getD 1 == 1 && (slicePicked z none none (some (-1, u))).length == z.length) = false := rfl
  rw [h1, if_neg Bool.false_ne_true]
  unfold slicePicked Builtin.Str.strSliceIndices
  show Made.str ⟨((sliceRange (((z.cps.size : Nat) : Int) - 1) (-1) (-1)).filterMap (z.cps[·]?)).toArray⟩ = _
  rw [PySem.W.krv_sliceRange, PySem.W.krv_range, List.filterMap_reverse, PySem.W.krv_all (α := Nat) z.cps]
section
variable {X : Cx}
/-- z[::-1], z a text -/
def tRevS (te : TE) : TE := fun σ H Q => te σ H fun x H1 => ∃ z : Str, x = .str z ∧ z.length ≤ sizeLine ∧ Q (.str ⟨(TL.tl z).reverse.toArray⟩) H1
theorem pe_rev_str {e : Expr} {te : TE} {k : Nat} {p1 p2 p3 pos : Pos} (he : PE X e te) : PE X (.Subscript e (.Slice none none (some (.UnaryOp .USub (.Constant (.int 1) k p1) p2)) p3) pos) (tRevS te) := by
  refine ⟨fun pins s σ H Q I h => ?_⟩
  refine Subscript_ (thn (he.run pins s σ H _ I h) fun v s1 ⟨x, H1, I1, r1, q1⟩ => ?_)
  obtain ⟨z, ex, hz, q⟩ := q1
  subst ex
  obtain ⟨tz, rfl⟩ := r1
  have hst : PO X (some (.UnaryOp .USub (.Constant (.int 1) k p1) p2)) (tPart (tUn (rU fun i => .int (-i)) (tC (.int 1)))) := po_some (pe_un un_neg pe_int)
  refine wpAny_Slice (thn (po_none.run pins s1 σ H1 (fun o H2 => o = none ∧ H2 = H1) I1 ⟨rfl, rfl⟩) fun vl s2 ⟨l, H2, I2, pl, el, e2⟩ => ?_)
  subst el e2
  refine thn (po_none.run pins s2 σ H2 (fun o H3 => o = none ∧ H3 = H2) I2 ⟨rfl, rfl⟩) fun vu s3 ⟨u, H3, I3, pu, eu, e3⟩ => ?_
  subst eu e3
  refine thn (hst.run pins s3 σ H3 (fun o H4 => o = some (-1) ∧ H4 = H3) I3 ⟨1, rfl, -1, rfl, rfl, rfl⟩) fun vs s4 ⟨o, H4, I4, ps, eo, e4⟩ => ?_
  subst eo e4
  cases pl
  cases pu
  cases ps with
  | int _ t =>
    have I5 : Inv X pins σ H4 { s4 with heap := s4.heap.push { cls := .type "slice", data := .fields #[.none, .none, .int (-1) t] } } := I4.kept (t' := s4.toks) fun b ob q => Heap.get?_push_of_some _ q
    show wpAny (model X.prog X.w) X.A (subscriptTail e (.Slice none none (some (.UnaryOp .USub (.Constant (.int 1) k p1) p2)) p3) (.str z tz) (.ref s4.heap.objs.size)) (EP X pins σ Q) X.xe { s4 with heap := s4.heap.push { cls := .type "slice", data := .fields #[.none, .none, .int (-1) t] } }
    refine tail_any (ops := [.str z tz, .ref s4.heap.objs.size]) (typeIs_str _ _ _) (PySem.F.slot_str_getitem.lookup) ?_ (by with_unfolding_all rfl)
    refine wpAny_getItem_str_slice (l := none) (u := none) (st := some (-1, t)) ⟨_, Heap.get?_push_size _ rfl, rfl, rfl⟩ rfl ?_
    rw [rev_str]
    exact ⟨by show (TL.tl z).reverse.toArray.size ≤ sizeLine; rw [List.size_toArray, List.length_reverse, ← TL.len_tl]; exact hz, .str _, H4, I5.tok _, ⟨_, rfl⟩, q⟩
theorem rev_pick (xs : Array Value) : ((List.range xs.size).filterMap fun (m : Nat) => xs[(((xs.size : Nat) : Int) - 1 + (m : Int) * (-1)).toNat]?).toArray = xs.toList.reverse.toArray := by
  have e : ((List.range xs.size).filterMap fun (m : Nat) => xs[(((xs.size : Nat) : Int) - 1 + (m : Int) * (-1)).toNat]?) = ((List.range xs.size).map fun k => xs.size - 1 - k).filterMap (xs[·]?) := by
    rw [List.filterMap_map]
    refine fm_congr fun m hm => ?_
    have := List.mem_range.mp hm
    show _ = xs[xs.size - 1 - m]?
    congr 1
    omega
  rw [e, PySem.W.krv_range, List.filterMap_reverse, PySem.W.krv_all]
/-- t[::-1], t a tuple: a new one -/
theorem getItem_tuple_rev {prog : Program} {w : World} {A : Around} {E : Value → Shared → Prop} {s : Shared} {t sl : Addr} {items : Array Value} {vl vu vs : Value} {Q : Value → Shared → Prop} (ht : IsTup s.heap t items) (hs : s.heap.IsSliceOf sl vl vu vs) (pl : IsPart vl none) (pu : IsPart vu none) (ps : IsPart vs (some (-1)))
    (h : Q (.ref s.heap.objs.size) { s with heap := s.heap.push { cls := .type "tuple", data := .seq items.toList.reverse.toArray } })
    (hsz : items.size ≤ sizeLine) : wpAny (model prog w) A (getItem (.ref t) (.ref sl)) Q E s := by
  have htake : sizeOk (.seq items.toList.reverse.toArray) := by
    show items.toList.reverse.toArray.size ≤ sizeLine
    rw [List.size_toArray, List.length_reverse, Array.length_toList]
    exact hsz
  obtain ⟨os, hos, hcs, hds⟩ := id hs
  have hTs : s.TypeIs (.ref sl) "slice" := ⟨os, hos, hcs⟩
  unfold getItem
  try with_reducible refine wpAny_holding ?_
  first | refine wpAny_bind (wpAny_pure ?_) | skip
  refine wpAny_bind (wpAny_sequenceKey ht.typeIs (by decide) ?_)
  refine wpAny_bind (wpAny_callSpecial?_slot (name := Str.ofString "__getitem__") ht.typeIs PyProof.Rows.slot_tuple_getitem
    (wpAny_call_entry PyProof.Rows.slot_tuple_getitem ht.typeIs entry_tuple_getitem ?_ (args_tuple_getitem _ _)))
  show wpAny _ _ (Builtin.Tuple.tupleItemsOf (.ref t) >>= _) _ _ s
  refine wpAny_bind (tupleItemsOf_ ht ?_)
  refine wpAny_bind (wpAny_typeOf hTs ?_)
  rw [if_pos (by decide)]
  have app : ∀ {R : Int × Int × Nat → Shared → Prop} {E : Value → Shared → Prop} {A : Around}, R ((((items.size : Nat) : Int) - 1), -1, items.size) s → wpAny (model prog w) A (Builtin.Slice.sliceApplied (.ref sl) (pure ((items.size : Nat) : Int))) R E s := fun {R E A} h => by
    unfold Builtin.Slice.sliceApplied Builtin.Slice.sliceFields
    refine wpAny_bind (wpAny_bind (wpAny_field hos hds (x := vl) rfl (wpAny_bind (wpAny_field hos hds (x := vu) rfl (wpAny_bind (wpAny_field hos hds (x := vs) rfl (wpAny_pure ?_)))))))
    refine wpAny_bind (HT.slicePart_ ps ?_)
    show wpAny _ _ (if ((-1 : Int) == 0) = true then _ else _) _ _ s
    rw [if_neg (by decide)]
    refine wpAny_bind (HT.slicePart_ pl (wpAny_bind (HT.slicePart_ pu (wpAny_bind (wpAny_pure ?_)))))
    have e1 : Builtin.Slice.sliceAdjust none none (-1) ((items.size : Nat) : Int) = (((items.size : Nat) : Int) - 1, -1) := rfl
    have e2 : Builtin.Slice.slicePlaces (((items.size : Nat) : Int) - 1) (-1) (-1) = items.size := by
      unfold Builtin.Slice.slicePlaces
      rw [if_neg (by decide)]
      by_cases hgt : ((items.size : Nat) : Int) - 1 > -1
      · rw [if_pos hgt, show (- -1 : Int) = 1 by decide, Int.ediv_one]
        omega
      · rw [if_neg hgt]
        omega
    show wpAny _ _ (match Builtin.Slice.sliceAdjust none none (-1) ((items.size : Nat) : Int) with | (lo, hi) => pure (lo, (-1 : Int), Builtin.Slice.slicePlaces lo hi (-1))) _ _ s
    rw [e1]
    show wpAny _ _ (pure ((((items.size : Nat) : Int) - 1), (-1 : Int), Builtin.Slice.slicePlaces (((items.size : Nat) : Int) - 1) (-1) (-1))) _ _ s
    rw [e2]
    exact wpAny_pure h
  refine wpAny_bind (app ?_)
  have hno : ¬ (((((items.size : Nat) : Int) - 1) == 0 && (-1 : Int) == 1 && items.size == items.size) = true) := by
    intro q
    rw [Bool.and_eq_true, Bool.and_eq_true] at q
    exact absurd q.1.2 (by decide)
  show wpAny _ _ (if ((((items.size : Nat) : Int) - 1) == 0 && (-1 : Int) == 1 && items.size == items.size) = true then _ else _) _ _ s
  rw [if_neg hno, rev_pick]
  first
    | exact wpAny_bind (m := Builtin.Tuple.tupleExact _) (wpAny_newObj_type (wpAny_pure ⟨_, rfl, wpAny_pure h⟩) htake)
    | exact wpAny_bind (m := Builtin.Tuple.tupleExact _) (wpAny_newObj_type (wpAny_bind (wpAny_pure (wpAny_pure ⟨_, rfl, wpAny_pure h⟩))) htake)
    | exact wpAny_bind (wpAny_bind (m := Builtin.Tuple.tupleExact _) (wpAny_newObj_type (wpAny_pure (wpAny_pure ⟨_, rfl, wpAny_pure h⟩)) htake))
def tRevT (K : PySem.W.Frag) (te : TE) : TE := fun σ H Q => te σ H fun x H1 => ∃ a xs, x = .ref a ∧ SqT K H1 a xs ∧ ∀ p, H1 p = none → Q (.ref p) (upd H1 p (.tup xs.reverse))
theorem pe_rev_tup {e : Expr} {te : TE} {k : Nat} {p1 p2 p3 pos : Pos} (he : PE X e te) : PE X (.Subscript e (.Slice none none (some (.UnaryOp .USub (.Constant (.int 1) k p1) p2)) p3) pos) (tRevT X.K te) := by
  refine ⟨fun pins s σ H Q I h => ?_⟩
  refine Subscript_ (thn (he.run pins s σ H _ I h) fun v s1 ⟨x, H1, I1, r1, q1⟩ => ?_)
  obtain ⟨a, xs, ex, hx, q⟩ := q1
  subst ex
  cases r1
  have hst : PO X (some (.UnaryOp .USub (.Constant (.int 1) k p1) p2)) (tPart (tUn (rU fun i => .int (-i)) (tC (.int 1)))) := po_some (pe_un un_neg pe_int)
  refine wpAny_Slice (thn (po_none.run pins s1 σ H1 (fun o H2 => o = none ∧ H2 = H1) I1 ⟨rfl, rfl⟩) fun vl s2 ⟨l, H2, I2, pl, el, e2⟩ => ?_)
  subst el e2
  refine thn (po_none.run pins s2 σ H2 (fun o H3 => o = none ∧ H3 = H2) I2 ⟨rfl, rfl⟩) fun vu s3 ⟨u, H3, I3, pu, eu, e3⟩ => ?_
  subst eu e3
  refine thn (hst.run pins s3 σ H3 (fun o H4 => o = some (-1) ∧ H4 = H3) I3 ⟨1, rfl, -1, rfl, rfl, rfl⟩) fun vs s4 ⟨o, H4, I4, ps, eo, e4⟩ => ?_
  subst eo e4
  have I5 : Inv X pins σ H4 { s4 with heap := s4.heap.push { cls := .type "slice", data := .fields #[vl, vu, vs] } } := I4.kept (t' := s4.toks) fun b ob q => Heap.get?_push_of_some _ q
  obtain ⟨its, r, ht, hz⟩ := I5.tuple hx
  have hlen := r.length
  show wpAny (model X.prog X.w) X.A (subscriptTail e (.Slice none none (some (.UnaryOp .USub (.Constant (.int 1) k p1) p2)) p3) (.ref a) (.ref s4.heap.objs.size)) (EP X pins σ Q) X.xe { s4 with heap := s4.heap.push { cls := .type "slice", data := .fields #[vl, vu, vs] } }
  refine tail_any (ops := [.ref a, .ref s4.heap.objs.size]) ht.typeIs (PyProof.Rows.slot_tuple_getitem.lookup) ?_ (by with_unfolding_all rfl)
  refine getItem_tuple_rev ht (Heap.IsSliceOf.new _ vl vu vs) pl pu ps ?_ (by rw [List.size_toArray]; omega)
  refine ⟨.ref _, _, I5.laid (t' := s4.toks) (o := .tup xs.reverse) (fun b ob q => Heap.get?_push_of_some _ q) (Nat.le_refl _) ?_, rfl, q _ (I5.hok.fresh (Nat.le_refl _))⟩
  exact ⟨by rw [List.length_reverse]; exact hz, _, r.reverse, ⟨_, Heap.get?_push_size _ rfl, rfl, 0, rfl⟩⟩
end
end L2
set_option autoImplicit false
/-! Pure words: from the end, list(range), index, sorted. -/
namespace SyP
open PySem PySem.Spec PyProof.Rows L2 Sy
variable {K : PySem.W.Frag} {sa : SA} {H H' Hm : Hp} {G : Gh} {ρ ρ' : En} {ts ts' : Ts} {σ σ' : L2.St} {C : CC} {X : Cx} {a b c : Expr} {pos p1 p2 p3 : Pos} {wa wb wc w : WE} {e : Expr} {es : List Expr} {wr : WA}
/-! ### [::-1] -/
/-- z[::-1], a text -/
def wRevS (wa : WE) : WE := fun ρ Q E => wa ρ (fun ra ρ1 => ∃ l, look ρ1 ra = some (.str (lt l)) ∧ l.length ≤ sizeLine ∧ Q (.fz (.str (lt l.reverse))) ρ1) E
theorem qe_revS {k : Nat} (ha : QE X C a wa) : QE X C (.Subscript a (.Slice none none (some (.UnaryOp .USub (.Constant (.int 1) k p1) p2)) p3) pos) (wRevS wa) :=
  PE.imp (pe_rev_str ha) fun σ H Q ⟨G, ρ, ts, Q', E', S, w, q, ee⟩ => ⟨G, ρ, ts, _, E', S, w, fun ra ρ1 ⟨l, e, hz, w⟩ x H1 S1 => ⟨lt l, (S1.top List.mem_cons_self e).str, hz, q _ _ w _ _ (S1.pop.pushSc rfl)⟩, ee⟩
/-- t[::-1], a tuple -/
def wRevT (wa : WE) : WE := fun ρ Q E => wa ρ (fun ra ρ1 => ∃ l, look ρ1 ra = some (.tup l) ∧ Q (.fz (.tup l.reverse)) ρ1) E
theorem qe_revT {k : Nat} (hk : X.K = C.K) (ha : QE X C a wa) : QE X C (.Subscript a (.Slice none none (some (.UnaryOp .USub (.Constant (.int 1) k p1) p2)) p3) pos) (wRevT wa) :=
  PE.imp (pe_rev_tup ha) fun σ H Q ⟨G, ρ, ts, Q', E', S, w, q, ee⟩ => ⟨G, ρ, ts, _, E', S, w, fun ra ρ1 ⟨l, e, w⟩ x H1 S1 => by
    obtain ⟨a, vs, rfl, h1, h2⟩ := S1.top List.mem_cons_self e
    exact ⟨a, vs, rfl, hk ▸ h1, fun p np => q _ _ w _ _ (S1.pop.newTup np (Reps.popped h2).reverse)⟩, ee⟩
/-- x[::-1], a list -/
def wRevL (wa : WE) : WE := fun ρ Q E => wa ρ (fun ra ρ1 => ∃ l, look ρ1 ra = some (.lst l) ∧ Q (.ow (.lst l.reverse)) ρ1) E
theorem qe_revL {k : Nat} (ha : QE X C a wa) : QE X C (.Subscript a (.Slice none none (some (.UnaryOp .USub (.Constant (.int 1) k p1) p2)) p3) pos) (wRevL wa) :=
  PE.imp (pe_revL ha) fun σ H Q ⟨G, ρ, ts, Q', E', S, w, q, ee⟩ => ⟨G, ρ, ts, _, E', S, w, fun ra ρ1 ⟨l, e, w⟩ x H1 S1 => by
    obtain ⟨a, vs, rfl, h1, h2⟩ := S1.top List.mem_cons_self e
    exact ⟨a, vs, rfl, SqL.of h1, fun p np => q _ _ w _ _ (S1.pop.newLst np (Reps.popped h2).reverse)⟩, ee⟩
/-! ### list(range(n)) -/
theorem reps_ints {P : Addr → Prop} : ∀ ns : List Int, Reps K sa (msk P H) (ns.map PV.int) (ns.map V.int)
  | [] => Reps.nil
  | n :: ns => Reps.cons (by unfold Rep; rfl) (reps_ints ns)
def wListRg1 (we : WE) : WE := fun ρ Q E => we ρ (fun r ρ1 => ∃ j, look ρ1 r = some (.int j) ∧ -(2 ^ 62) ≤ j ∧ j ≤ 16777216 ∧ Q (.ow (.lst (rgI 0 j.toNat))) ρ1) E
theorem qe_listRg1 {we : WE} {p q p3 : Pos} (hc : X.calm = true) (hg : Gl X "list") (hm : X.mg "list" = none) (hg2 : Gl X "range") (hm2 : X.mg "range" = none) (he : QE X C e we)
    (na : starEach [e] X.env = (false, eval e X.env) :: starEach [] X.env := by rfl)
    (hs : starEach [.Call (.Name "range" q) [e] [] p3] X.env = (false, eval (.Call (.Name "range" q) [e] [] p3) X.env) :: starEach [] X.env := by rfl) :
    QE X C (.Call (.Name "list" p) [.Call (.Name "range" q) [e] [] p3] [] pos) (wListRg1 we) :=
  PE.imp (pe_listRg hc hg hm (prg_1 hg2 hm2 he na) hs) fun σ H Q ⟨G, ρ, ts, Q', E', S, w, q, ee⟩ => ⟨G, ρ, ts, _, E', S, w, fun r ρ1 ⟨j, e, h1, h2, w⟩ x H1 S1 => by
    refine ⟨j, (S1.top List.mem_cons_self e).int, ⟨by decide, by decide, h1, by omega, by omega⟩, fun p np => ?_⟩
    have e1 : rgV 0 j = ((List.range j.toNat).map fun i => (0 : Int) + (i : Nat)).map V.int := by
      unfold rgV
      rw [List.map_map, Int.sub_zero]
      rfl
    have e2 : rgI 0 j.toNat = ((List.range j.toNat).map fun i => (0 : Int) + (i : Nat)).map PV.int := by
      unfold rgI
      rw [List.map_map]
      rfl
    rw [e2] at w
    rw [e1]
    exact q _ _ w _ _ (S1.pop.newLst np (reps_ints _)), ee⟩
/-! ### index -/
theorem pds_get {l : List PV} {j : Nat} {p : PV} (h : l[j]? = some p) : (pds l)[j]? = some (pd p) := by
  rw [pds_map, List.getElem?_map, h]
  rfl
/-- o.index(e), a list of data -/
def wIndexL (wo we : WE) : WE := fun ρ Q E => wo ρ (fun ra ρ1 => (∃ l0, look ρ1 ra = some (.lst l0)) ∧ we ρ1 (fun rb ρ2 => ∃ l p j z, look ρ2 ra = some (.lst l) ∧ look ρ2 rb = some p ∧ Fl 9 (.lst l) ∧ Fl 9 p ∧ l[j]? = some z ∧ eqp z p = true ∧
  (∀ (m : Nat) (z' : PV), m < j → l[m]? = some z' → eqp z' p = false) ∧ Q (.fz (.int (j : Nat))) ρ2) E) E
theorem qe_indexL {apos : Pos} {o : Expr} {wo we : WE} (hk : X.K = C.K) (hu : X.A.units + 65 < cLine) (ho : QE X C o wo) (he : QE X C e we)
    (hbase : attributeBase o "index" X.env (eval o X.env) = eval o X.env := by rfl)
    (hfew : ((backTo pos (starEach [e] X.env)).all (fun x => !x.1) && (backToKw pos (keywordEach [] X.env)).all (fun x => x.1.isSome)
      && decide (([e] : List Expr).length + ([] : List Keyword).length + (if ([] : List Keyword).isEmpty then 0 else 1) < 30)) = true := by rfl)
    (hline : (apos.endLine == pos.line) = true := by rfl) (hs : starEach [e] X.env = (false, eval e X.env) :: starEach [] X.env := by rfl) (hplain : (backTo pos (starEach [] X.env)).any (·.1) = false := by rfl) :
    QE X C (.Call (.Attribute o "index" apos) [e] [] pos) (wIndexL wo we) :=
  PE.imp (pe_bm PySem.F.plainAttrs_list PySem.F.slot_list_index PySem.F.type_list_index (mt_indexD hu) ho (pa_cons he pa_nil hs) hbase hfew hline hs hplain) fun σ H Q ⟨G, ρ, ts, Q', E', S, w, q, ee⟩ => ⟨G, ρ, ts, _, E', S, w, fun r0 ρ1 ⟨⟨l0, el⟩, w⟩ x H1 S1 => by
    refine ⟨hk ▸ ty_list (S1.top List.mem_cons_self el), G, ρ1, (r0, x) :: ts, _, E', S1, w, fun re ρ2 ⟨l, p, j, z, e1, e2, f1, f2, hz, hzp, hno, w⟩ y H2 S2 => ?_, ee⟩
    have t1 := S2.top mem1 e1
    have t2 := S2.top List.mem_cons_self e2
    have d1 := Top.dp f1 t1
    have d2 := Top.dp f2 t2
    obtain ⟨a, vs, rfl, h1, h2⟩ := t1
    have s1 := f1.shaped (by decide)
    unfold pd at d1 s1
    refine ⟨a, y, pd p, pds l, j, pd z, rfl, rfl, hk ▸ d1, hk ▸ d2, s1, f2.shaped (by decide), pds_get hz, hzp, fun m z' hm hz' => ?_, q _ _ w _ _ (S2.pop.pop.pushSc rfl)⟩
    rw [pds_map, List.getElem?_map] at hz'
    cases hl : l[m]? with
    | none =>
      rw [hl] at hz'
      cases hz'
    | some z2 =>
      rw [hl] at hz'
      cases hz'
      exact hno m z2 hm hl, ee⟩
theorem lts_map (ls : List (List Nat)) : (ls.map fun l => PV.str (lt l)) = (ls.map lt).map PV.str := by
  rw [List.map_map]
  rfl
theorem lts_get {ls : List (List Nat)} {j : Nat} {l : List Nat} : ((ls.map lt)[j]? = some (lt l)) = (ls[j]? = some l) := propext (by
  rw [List.getElem?_map]
  cases ls[j]? with
  | none => simp
  | some x => simp [lt_inj])
/-! ### sorted -/
/-- sorted(x), a list of ints -/
def wSortedI : WB := fun ρ rs Q => ∃ (ra : AV) (ns : List Int), rs = [ra] ∧ look ρ ra = some (.lst (ns.map PV.int)) ∧ ∀ ms : List Int, ms.Perm ns → ms.Pairwise (· ≤ ·) → Q (.ow (.lst (ms.map PV.int))) ρ
theorem cp_sortedI : CaP C wSortedI (rSortedI C.K) := CaP.one (fun _ _ _ ⟨a, _, e, _⟩ => ⟨a, e⟩) fun G ρ ts σ H ra v Q' Q S ⟨_, ns, e0, e, w⟩ q => by
  cases e0
  obtain ⟨a, vs, rfl, h1, h2⟩ := S.top List.mem_cons_self e
  rw [h2.ints] at h1
  exact ⟨a, ns, rfl, SqL.of h1, fun ms p hp hs np => q _ _ (w ms hp hs) _ _ (S.pop.newLst np (reps_ints _))⟩
theorem cr_sortedI' (_ : X.calm = true) : CallR X (.builtin "sorted") (rSortedI X.K) := cr_sortedI
theorem rising_le : ∀ (x : Str) (r : List Str), risingS x r = true → (∀ y ∈ r, x.cps.toList ≤ y.cps.toList) ∧ (r.map fun z : Str => z.cps.toList).Pairwise (· ≤ ·)
  | _, [], _ => ⟨fun _ h => (nomatch h), List.Pairwise.nil⟩
  | x, y :: r, h => by
    unfold risingS at h
    rw [Bool.and_eq_true, Bool.not_eq_true', ltCps_eq, decide_eq_false_iff_not] at h
    have hxy : x.cps.toList ≤ y.cps.toList := List.not_lt.mp h.1
    obtain ⟨h1, h2⟩ := rising_le y r h.2
    refine ⟨fun z hz => ?_, ?_⟩
    · rcases List.mem_cons.mp hz with rfl | hz
      · exact hxy
      · exact List.le_trans hxy (h1 z hz)
    · rw [List.map_cons, List.pairwise_cons]
      refine ⟨fun b hb => ?_, h2⟩
      obtain ⟨z, hz, rfl⟩ := List.mem_map.mp hb
      exact h1 z hz
theorem sortedS_le {l : List Str} (h : sortedS l = true) : (l.map fun z : Str => z.cps.toList).Pairwise (· ≤ ·) := by
  cases l with
  | nil => exact List.Pairwise.nil
  | cons x r =>
    obtain ⟨h1, h2⟩ := rising_le x r h
    rw [List.map_cons, List.pairwise_cons]
    refine ⟨fun b hb => ?_, h2⟩
    obtain ⟨z, hz, rfl⟩ := List.mem_map.mp hb
    exact h1 z hz
theorem reps_strs {P : Addr → Prop} : ∀ ns : List Str, Reps K sa (msk P H) (ns.map PV.str) (ns.map V.str)
  | [] => Reps.nil
  | n :: ns => Reps.cons (by unfold Rep; rfl) (reps_strs ns)
/-- the same texts in another order, as lists of signs -/
theorem perm_lts {ls : List (List Nat)} {ys : List Str} (h : ys.Perm (ls.map lt)) (s : sortedS ys = true) : ∃ ms : List (List Nat), ys = ms.map lt ∧ ms.Perm ls ∧ ms.Pairwise (· ≤ ·) := by
  refine ⟨ys.map fun z : Str => z.cps.toList, ?_, ?_, sortedS_le s⟩
  · rw [List.map_map]
    have e : (lt ∘ fun z : Str => z.cps.toList) = id := funext fun z => rfl
    rw [e, List.map_id]
  · have := h.map fun z : Str => z.cps.toList
    rw [List.map_map] at this
    have e : ((fun z : Str => z.cps.toList) ∘ lt) = id := funext fun z => rfl
    rwa [e, List.map_id] at this
/-- sorted(x), a list or a tuple of fewer than 64 texts -/
def wSortedS : WB := fun ρ rs Q => ∃ (ra : AV) (ls : List (List Nat)), rs = [ra] ∧ look ρ ra = some (.lst (ls.map fun l => PV.str (lt l))) ∧ ls.length < 64 ∧ ∀ ms : List (List Nat), ms.Perm ls → ms.Pairwise (· ≤ ·) → Q (.ow (.lst (ms.map fun l => PV.str (lt l)))) ρ
theorem cp_sortedS : CaP C wSortedS (rSortedS C.K) := CaP.one (fun _ _ _ ⟨a, _, e, _⟩ => ⟨a, e⟩) fun G ρ ts σ H ra v Q' Q S ⟨_, ls, e0, e, hz, w⟩ q => by
  cases e0
  rw [lts_map] at e
  obtain ⟨a, vs, rfl, h1, h2⟩ := S.top List.mem_cons_self e
  rw [h2.strs] at h1
  refine ⟨a, ls.map lt, rfl, SqL.of h1, by rw [List.length_map]; exact hz, fun ys p hp hs np => ?_⟩
  obtain ⟨ms, rfl, hm, hw⟩ := perm_lts hp hs
  have := w ms hm hw
  rw [lts_map] at this
  exact q _ _ this _ _ (S.pop.newLst np (reps_strs _))
theorem cr_sortedS' (_ : X.calm = true) : CallR X (.builtin "sorted") (rSortedS X.K) := cr_sortedS
def wSortedT : WB := fun ρ rs Q => ∃ (ra : AV) (ls : List (List Nat)), rs = [ra] ∧ look ρ ra = some (.tup (ls.map fun l => PV.str (lt l))) ∧ ls.length < 64 ∧ ∀ ms : List (List Nat), ms.Perm ls → ms.Pairwise (· ≤ ·) → Q (.ow (.lst (ms.map fun l => PV.str (lt l)))) ρ
theorem cp_sortedT : CaP C wSortedT (L2.rSortTT C.K) := CaP.one (fun _ _ _ ⟨a, _, e, _⟩ => ⟨a, e⟩) fun G ρ ts σ H ra v Q' Q S ⟨_, ls, e0, e, hz, w⟩ q => by
  cases e0
  rw [lts_map] at e
  obtain ⟨a, vs, rfl, h1, h2⟩ := S.top List.mem_cons_self e
  rw [h2.strs] at h1
  refine ⟨a, ls.map lt, rfl, h1, by rw [List.length_map]; exact hz, fun ys p hp hs np => ?_⟩
  obtain ⟨ms, rfl, hm, hw⟩ := perm_lts hp hs
  have := w ms hm hw
  rw [lts_map] at this
  exact q _ _ this _ _ (S.pop.newLst np (reps_strs _))
theorem cr_sortedT' (_ : X.calm = true) : CallR X (.builtin "sorted") (L2.rSortTT X.K) := L2.cr_sortTT
end SyP
set_option autoImplicit false
/-! Pure words: try with one except clause that returns of the error's own field. -/
namespace SyP
open PySem PySem.Spec PyProof.Rows L2 Sy
variable {K : PySem.W.Frag} {sa : SA} {H H' Hm : Hp} {G : Gh} {ρ ρ' : En} {ts ts' : Ts} {σ σ' : L2.St} {C : CC} {X : Cx} {a b c : Expr} {pos p1 p2 p3 : Pos} {wa wb wc w : WE} {e : Expr} {es : List Expr} {wr : WA}
/-- try: body; except nm as n: return of its field fld -/
def wTry (nm fld : Str) (kp : PV → AV) (wb : WS) : WS := fun P ρ => wb { nx := P.nx, rt := P.rt, bk := P.bk, ct := P.ct, ex := fun e => e.nm = nm ∧ ∃ p, e.fs = [(fld, p)] ∧ P.rt (kp p) } ρ
def TryRet (K : PySem.W.Frag) (i : Nat) (fld : Str) (A : Addr) (kp : PV → AV) (tt : Addr → Value → Option Addr → TS) : Prop := ∀ (a : Addr) (d : Option Addr) (D : Ends) (σ : L2.St) (H : Hp) (G : Gh) (p : PV) (v : V) (dx : Addr),
  i < σ.length → saOk G.sa H → Fra G.sa G.H0 H → (∀ b, G.O b → G.H0 b ≠ none) → (∀ l s, G.sa = some (l, s) → G.O s) → d = some dx → H dx = some (.xd [(fld, v)]) → Rep K G.sa (msk G.O H) p v →
  (∀ v' H', Retn K G (kp p) v' H' → D.rt v' H') → tt a (.ref A) d D (σ.set i (some (.ref a))) H
def XItem (K : PySem.W.Frag) (i : Nat) (fld : Str) (A : Addr) (te : Addr → Value → Option Addr → TE) (f : PV → PV) : Prop := ∀ (a : Addr) (d : Option Addr) (σ : L2.St) (H : Hp) (sa : SA) (O : Addr → Prop) (p : PV) (v : V) (dx : Addr) (Q : VK),
  i < σ.length → d = some dx → H dx = some (.xd [(fld, v)]) → Rep K sa (msk O H) p v → (∀ u, Rep K sa (msk O H) (f p) u → Q u H) → te a (.ref A) d (σ.set i (some (.ref a))) H Q
theorem xi_fld {i : Nat} {fld : Str} {A : Addr} : XItem K i fld A (fun a cls d => tXf a cls d A fld (tVar i)) (fun p => p) := fun a d σ H sa O p v dx Q hi hd hx r q =>
  ⟨.ref a, by rw [List.getElem?_set_self hi], rfl, rfl, dx, _, v, hd, hx, by simp [List.lookup], q v r⟩
theorem xi_str {i : Nat} {fld : Str} {A : Addr} (s : Str) : XItem K i fld A (fun _ _ _ => tC (.str s)) (fun _ => .str s) := fun a d σ H sa O p v dx Q hi hd hx r q => q _ (by unfold Rep; rfl)
section
variable {i : Nat} {fld : Str} {A : Addr} {te tf : Addr → Value → Option Addr → TE} {f g : PV → PV}
theorem tr_one (h : XItem K i fld A te f) : TryRet K i fld A (fun p => .fz (f p)) (fun a cls d => tRet (te a cls d)) := fun a d D σ H G p v dx hi sk fr od so hd hx r q =>
  h a d σ H G.sa G.O p v dx _ hi hd hx r fun u ru => q u H ⟨fr, sk, ru⟩
theorem ret_lst {us : List V} {ps : List PV} {q : Addr} (sk : saOk G.sa H) (fr : Fra G.sa G.H0 H) (od : ∀ b, G.O b → G.H0 b ≠ none) (so : ∀ l s, G.sa = some (l, s) → G.O s) (n : H q = none) (r : Reps K G.sa (msk G.O H) ps us) : Retn K G (.ow (.lst ps)) (.ref q) (upd H q (.lst us)) := by
  have hs : ∀ l s, G.sa = some (l, s) → q ≠ s := fun l s e z => by
    obtain ⟨_, ns, x, k, _, _, h3, _⟩ := sk l s e
    rw [← z, n] at h3
    cases h3
  have h0 : G.H0 q = none := by
    cases e : G.H0 q with
    | none => rfl
    | some o =>
      have := fr q o hs e
      rw [n] at this
      cases this
  refine ⟨fr.trans (Fra.of (same_new n)), saOk.same (same_new n) sk, q, rfl, h0, us, upd_same, ?_⟩
  refine Reps.same (fun b o e => ?_) r
  obtain ⟨n1, e1⟩ := of_msk e
  have hb : b ≠ q := fun z => by
    rw [z, n] at e1
    cases e1
  rw [msk_of (fun z => z.elim hb n1), upd_ne hb]
  exact e1
theorem ret_tup {us : List V} {ps : List PV} {q : Addr} (sk : saOk G.sa H) (fr : Fra G.sa G.H0 H) (od : ∀ b, G.O b → G.H0 b ≠ none) (so : ∀ l s, G.sa = some (l, s) → G.O s) (n : H q = none) (r : Reps K G.sa (msk G.O H) ps us) : Retn K G (.fz (.tup ps)) (.ref q) (upd H q (.tup us)) := by
  have hs : ∀ l s, G.sa = some (l, s) → q ≠ s := fun l s e z => by
    obtain ⟨_, ns, x, k, _, _, h3, _⟩ := sk l s e
    rw [← z, n] at h3
    cases h3
  have h0 : G.H0 q = none := by
    cases e : G.H0 q with
    | none => rfl
    | some o =>
      have := fr q o hs e
      rw [n] at this
      cases this
  refine ⟨fr.trans (Fra.of (same_new n)), saOk.same (same_new n) sk, ?_⟩
  show Rep K G.sa (msk G.O (upd H q (.tup us))) (.tup ps) (.ref q)
  unfold Rep
  refine ⟨q, us, rfl, .inl (.inl (by rw [msk_of (fun z => od q z h0), upd_same])), ?_⟩
  exact Reps.grown n r
theorem tr_lst1 (h : XItem K i fld A te f) : TryRet K i fld A (fun p => .ow (.lst [f p])) (fun a cls d => tRet (tLst (tCons (te a cls d) tNil))) := fun a d D σ H G p v dx hi sk fr od so hd hx r q =>
  h a d σ H G.sa G.O p v dx _ hi hd hx r fun u ru => ⟨by show 1 ≤ sizeLine; decide, fun l n => q _ _ (ret_lst sk fr od so n (.cons ru .nil))⟩
theorem tr_lst2 (h : XItem K i fld A te f) (h2 : XItem K i fld A tf g) : TryRet K i fld A (fun p => .ow (.lst [f p, g p])) (fun a cls d => tRet (tLst (tCons (te a cls d) (tCons (tf a cls d) tNil)))) := fun a d D σ H G p v dx hi sk fr od so hd hx r q =>
  h a d σ H G.sa G.O p v dx _ hi hd hx r fun u ru => h2 a d σ H G.sa G.O p v dx _ hi hd hx r fun u2 ru2 => ⟨by show 2 ≤ sizeLine; decide, fun l n => q _ _ (ret_lst sk fr od so n (.cons ru (.cons ru2 .nil)))⟩
theorem tr_tup2 (h : XItem K i fld A te f) (h2 : XItem K i fld A tf g) : TryRet K i fld A (fun p => .fz (.tup [f p, g p])) (fun a cls d => tRet (tTup (tCons (te a cls d) (tCons (tf a cls d) tNil)))) := fun a d D σ H G p v dx hi sk fr od so hd hx r q =>
  h a d σ H G.sa G.O p v dx _ hi hd hx r fun u ru => h2 a d σ H G.sa G.O p v dx _ hi hd hx r fun u2 ru2 => ⟨by show 2 ≤ sizeLine; decide, fun l n => q _ _ (ret_tup sk fr od so n (.cons ru (.cons ru2 .nil)))⟩
end
theorem qs_try {nm fld n : Str} {i : Nat} {A : Addr} {body suite : List Stmt} {b₀ : Stmt} {np pos' : Pos} {ws : WS} {kp : PV → AV} {tt : Addr → Value → Option Addr → TS} (Z : Xc X.prog X.w X.K X.mg X.base nm fld A) (hC : C.K = X.K ∧ C.mg = X.mg)
    (hs : X.stack = X.env :: X.outer) (hf : X.env.frame = some X.env.locals) (hN : X.N.Nodup) (hi : X.N[i]? = some n) (hln : X.env.kindOf n = some .local) (hg : Gl X nm) (hdb : (nm == ("__debug__" : Str)) = false)
    (hr : TryRet C.K i fld A kp tt)
    (hb : ∀ (E1 : XK) (pn : List (Addr × Obj)) (xe : Value → Shared → Prop), Takes (X.tr pn xe) (fun cls d _ H => E1 cls d H) → PassesOwn (model X.prog X.w) X.A X.env xe → QSs (X.tr pn xe) ⟨C.K, C.mg, E1⟩ body ws)
    (hsu : ∀ (a : Addr) (oe : Obj) (cls : Value) (d : Option Addr) (pn : List (Addr × Obj)), Zc cls d oe → (∃ vs, oe.data = .fields vs) → PSs (X.suite a ((a, oe) :: pn)) (b₀ :: suite) (tt a cls d)) :
    QS X C (.Try body [.ExceptHandler (some (.Name nm np)) (some n) (b₀ :: suite) pos'] [] [] pos) (wTry nm fld kp ws) := by
  have hin : i < X.N.length := (List.getElem?_eq_some_iff.mp hi).1
  refine PS.imp (ps_try_as (tb := fun W => tPS ⟨C.K, C.mg, fun cls d H => ∀ σ : L2.St, i < σ.length → W cls d σ H⟩ ws) (ts := tt) (Wout := fun _ _ _ _ => False) hs hf hN hi hln ⟨hg, hdb, .inl Z.g⟩ takes0 (fun W pn xe tk po => hb _ pn xe (fun u s' xx => ?_) po) hsu) fun D σ H ⟨G, ρ, ts', P, ft, S, w, d⟩ => ⟨G, ρ, ts', _, ft, S, w, d.nx, d.rt, d.bk, d.ct, ?_⟩
  · obtain ⟨a, B, sI, pins, σ, H, cls, d, e, I, nb, up, sky, na, os, ag, h⟩ := xx
    exact tk u s' ⟨a, B, sI, pins, σ, H, cls, d, e, I, nb, up, sky, na, os, ag, h σ (by rw [I.len]; exact hin)⟩
  · rintro e ⟨en, p, ef, hrt⟩ cls dd H' ⟨fr, sk, A', dx, vs, hA, rfl, rfl, hx, hv⟩ σ' hl
    have hA : C.mg e.nm = some (.ref A') := hA
    rw [en, hC.2, Z.g] at hA
    cases hA
    rw [ef] at hx hv
    unfold Reps Reps at hv
    obtain ⟨v, _, rfl, r1, rfl⟩ := hv
    refine ⟨true, Z.te, fun _ a ha => ?_, fun q => Bool.noConfusion q⟩
    exact hr a (some dx) _ σ' H' G p v dx hl sk fr S.od S.so rfl hx r1 fun v' H'' h => d.rt _ hrt _ _ h
end SyP
set_option autoImplicit false
/-! Pure words: tuples of the module, gcd. -/
namespace SyP
open PySem PySem.Spec PyProof.Rows L2 Sy
variable {K : PySem.W.Frag} {sa : SA} {H H' Hm : Hp} {G : Gh} {ρ ρ' : En} {ts ts' : Ts} {σ σ' : L2.St} {C : CC} {X : Cx} {a b c : Expr} {pos p1 p2 p3 : Pos} {wa wb wc w : WE} {e : Expr} {es : List Expr} {wr : WA}
/-- a tuple of ints of the module -/
def CT (mg : Str → Option Value) (K : PySem.W.Frag) (x : Str) (ns : List Int) : Prop := ∃ a, mg x = some (.ref a) ∧ ∀ H, SqT K H a (ns.map V.int)
theorem ct_of {mg : Str → Option Value} {x : Str} {ns : List Int} {a : Addr} {o : Obj} {its : Array Value} {n : Nat} (h : mg x = some (.ref a)) (hk : K.lookup a = some o) (hc : o.cls = .type "tuple") (hd : o.data = .seq its n) (hz : its.size ≤ sizeLine) (hv : Vals (ns.map V.int) its.toList) : CT mg K x ns :=
  ⟨a, h, fun H => .inr ⟨o, its, n, hk, hc, hd, hz, hv⟩⟩
theorem reps_ints' : ∀ ns : List Int, Reps K sa H (ns.map PV.int) (ns.map V.int)
  | [] => Reps.nil
  | n :: ns => Reps.cons (by unfold Rep; rfl) (reps_ints' ns)
theorem qe_gT {x : Str} {ns : List Int} (h : CT X.mg C.K x ns) (hg : Gl X x) (hd : (x == ("__debug__" : Str)) = false := by decide) : QE X C (.Name x pos) (wC (.tup (ns.map PV.int))) := by
  obtain ⟨a, h, hs⟩ := h
  exact qe_glob (v := .ref a) hg h rfl (fun H => by unfold Rep; exact ⟨a, _, rfl, hs H, reps_ints' ns⟩) hd fun sa H _ => by unfold Rep; exact ⟨a, _, rfl, hs H, reps_ints' ns⟩
/-- gcd(a, b) of the module's name -/
def wGcd : WB := fun ρ rs Q => ∃ ra rb i j, rs = [ra, rb] ∧ look ρ ra = some (.int i) ∧ look ρ rb = some (.int j) ∧ Q (.fz (.int ((Nat.gcd i.natAbs j.natAbs : Nat) : Int))) ρ
theorem cp_gcd : CaP C wGcd rGcd := fun G ρ ts σ H rs vs Q' Q hl S ⟨ra, rb, i, j, er, e1, e2, w⟩ q => by
  subst er
  match vs, hl with
  | [x, y], _ => exact ⟨i, j, by rw [(S.top (r := ra) List.mem_cons_self e1).int, (S.top (r := rb) (v := y) mem1 e2).int], q _ _ w _ _ (S.pop.pop.pushSc rfl)⟩
theorem qe_gcd {x : Str} {p : Pos} (hg : Gl X x) (hm : X.mg x = some (.builtin "math.gcd")) (ha : QA X C (e :: es) wr) (hdb : (x == ("__debug__" : Str)) = false := by decide)
    (he : starEach (e :: es) X.env = (false, eval e X.env) :: starEach es X.env := by rfl) (hpl : (backTo pos (starEach es X.env)).any (·.1) = false := by rfl) : QE X C (.Call (.Name x p) (e :: es) [] pos) (wCB wGcd wr) :=
  PE.imp (pe_callBfun cr_gcd hg hm ha hdb he hpl) fun _ _ _ h => tCB_of cp_gcd h
end SyP
set_option autoImplicit false
/-! Pure words: sorted and min of a list of data, any length. -/
namespace SyP
open PySem PySem.Spec PyProof.Rows L2 Sy
variable {K : PySem.W.Frag} {sa : SA} {H H' Hm : Hp} {G : Gh} {ρ ρ' : En} {ts ts' : Ts} {σ σ' : L2.St} {C : CC} {X : Cx} {a b c : Expr} {pos p1 p2 p3 : Pos} {wa wb wc w : WE} {e : Expr} {es : List Expr} {wr : WA}
open PySem.W (EachIs AllAlike Sortable dataLe)
abbrev Zs := List (PV × V)
theorem each_zip {R : Value → PV × V → Prop} : ∀ {zs : Zs} {us : List Value}, Vals (zs.map Prod.snd) us → (∀ z ∈ zs, ∀ u, RelV z.2 u → R u z) → EachIs R us zs
  | [], _, .nil, _ => .nil
  | z :: zs, _, .cons r t, h => .cons (h z List.mem_cons_self _ r) (each_zip t fun y hy => h y (List.mem_cons_of_mem _ hy))
theorem vals_each : ∀ {zs : Zs} {us : List Value}, EachIs (fun u z => RelV z.2 u) us zs → Vals (zs.map Prod.snd) us
  | [], _, .nil => .nil
  | _ :: _, _, .cons r t => .cons r (vals_each t)
def rSortD (K : PySem.W.Frag) : List V → Hp → VK → Prop := fun vs H Q => ∃ (a : Addr) (zs : Zs), vs = [.ref a] ∧ SqL K H a (zs.map Prod.snd) ∧ (∀ z ∈ zs, Dp K H z.2 (pd z.1)) ∧ AllAlike (zs.map fun z => pd z.1) ∧ Sortable (zs.map fun z => pd z.1) ∧ (∀ z ∈ zs, (pd z.1).depth ≤ 60) ∧
  ∀ p, H p = none → Q (.ref p) (upd H p (.lst ((zs.mergeSort (dataLe false fun z => pd z.1)).map Prod.snd)))
theorem cr_sortD (hu : X.A.units + 65 < cLine) : CallR X (.builtin "sorted") (rSortD X.K) := by
  intro pins s σ H vs us Q I r h
  obtain ⟨a, zs, rfl, hs, hd, hal, hso, hdp, q⟩ := h
  obtain ⟨its, rv, hl, hz⟩ := I.list hs
  rw [Vals.ref1 r]
  rw [List.length_map] at hz
  refine PySem.W.sorted_data (R := fun u z => RelV z.2 u) (enc := fun z : PV × V => pd z.1) (bs := zs) hl.isList (each_zip rv fun z hz u hr => hr) (each_zip rv fun z hz u hr => Dp.reads I (pd z.1) z.2 u (hd z hz) hr) hal hso hz (fun z hz => ?_) fun out ho he => ?_
  · have := hdp z hz
    omega
  · obtain ⟨ep, he'⟩ := PyProof.Rows.sortedAll_at s.heap its out.toArray
    refine ⟨.ref _, upd H (s.heap.objs.size + 1) (.lst ((zs.mergeSort (dataLe false fun z => pd z.1)).map Prod.snd)), I.laid (t' := s.toks) (fun _ _ => PyProof.Rows.sortedAll_old) (Nat.le_succ _) ⟨?_, out, ep, vals_each he, by simpa using he'⟩, rfl, q _ (I.hok.fresh (Nat.le_succ _))⟩
    rw [List.length_map, List.length_mergeSort]
    exact hz
/-- a list in order -/
def sortP (l : List PV) : List PV := l.mergeSort (dataLe false pd)
theorem zip_fst : ∀ {l : List PV} {vs : List V}, vs.length = l.length → (l.zip vs).map Prod.fst = l ∧ (l.zip vs).map Prod.snd = vs := fun {l vs} h => by
  rw [← List.unzip_fst, ← List.unzip_snd, List.unzip_zip h.symm]
  exact ⟨rfl, rfl⟩
theorem reps_zip : ∀ {l : List PV} {vs : List V}, Reps K sa H l vs → ∀ z ∈ l.zip vs, Rep K sa H z.1 z.2
  | [], _, _, _, hz => by simp at hz
  | p :: ps, vs, h, z, hz => by
    unfold Reps at h
    obtain ⟨v, r, rfl, h1, h2⟩ := h
    rw [List.zip_cons_cons] at hz
    rcases List.mem_cons.mp hz with rfl | hz
    · exact h1
    · exact reps_zip h2 z hz
theorem reps_of : ∀ {zs : Zs}, (∀ z ∈ zs, Rep K sa H z.1 z.2) → Reps K sa H (zs.map Prod.fst) (zs.map Prod.snd)
  | [], _ => Reps.nil
  | z :: zs, h => Reps.cons (h z List.mem_cons_self) (reps_of fun y hy => h y (List.mem_cons_of_mem _ hy))
def wSortedD : WB := fun ρ rs Q => ∃ (ra : AV) (l : List PV), rs = [ra] ∧ look ρ ra = some (.lst l) ∧ (∀ x ∈ l, Fl 9 x) ∧ AllAlike (l.map pd) ∧ Sortable (l.map pd) ∧ Q (.ow (.lst (sortP l))) ρ
theorem cp_sortedD : CaP C wSortedD (rSortD C.K) := CaP.one (fun _ _ _ ⟨a, _, e, _⟩ => ⟨a, e⟩) fun G ρ ts σ H ra v Q' Q S ⟨_, l, e0, e, hf, hal, hso, w⟩ q => by
  cases e0
  obtain ⟨a, vs, rfl, h1, h2⟩ := S.top List.mem_cons_self e
  obtain ⟨z1, z2⟩ := zip_fst h2.length
  have hz := reps_zip h2
  have em : (l.zip vs).map (fun z => pd z.1) = l.map pd := by
    rw [show (fun z : PV × V => pd z.1) = pd ∘ Prod.fst from rfl, ← List.map_map, z1]
  have hfz : ∀ z ∈ l.zip vs, Fl 9 z.1 := fun z h => hf z.1 (by rw [← z1]; exact List.mem_map_of_mem h)
  refine ⟨a, l.zip vs, rfl, SqL.of (by rw [z2]; exact h1), fun z h => Rep.dp (hfz z h) (Rep.same msk_top (hz z h)), by rw [em]; exact hal, by rw [em]; exact hso, fun z h => by have := (hfz z h).ok.2; omega, fun p np => ?_⟩
  have e1 : sortP l = ((l.zip vs).mergeSort (dataLe false fun z => pd z.1)).map Prod.fst := by
    unfold sortP
    have hm := List.map_mergeSort (r := dataLe false fun z : PV × V => pd z.1) (s := dataLe false pd) (f := Prod.fst) (l := l.zip vs) (fun a _ b _ => rfl)
    rw [z1] at hm
    exact hm.symm
  rw [e1] at w
  exact q _ _ w _ _ (S.pop.newLst np (Reps.popped (reps_of fun z h => hz z ((List.mergeSort_perm _ _).mem_iff.mp h))))
theorem sortP_map {β : Type} (f : β → PV) (le : β → β → Bool) (bs : List β) (h : ∀ a b, dataLe false pd (f a) (f b) = le a b) : sortP (bs.map f) = (bs.mergeSort le).map f := by
  have hm := List.map_mergeSort (r := le) (s := dataLe false pd) (f := f) (l := bs) (fun a _ b _ => (h a b).symm)
  exact hm.symm
theorem sortP_ints (ns : List Int) : sortP (ns.map PV.int) = (ns.mergeSort fun a b => decide (a ≤ b)).map PV.int := sortP_map _ _ _ fun a b => by
  have := congrFun (congrFun (PySem.W.dataLe_int (β := Int) id) a) b
  exact this
theorem sortP_lts (ls : List (List Nat)) : sortP (ls.map pS) = (ls.mergeSort fun a b => decide (a ≤ b)).map pS := sortP_map _ _ _ fun a b => by
  have := congrFun (congrFun (PySem.W.dataLe_str (β := List Nat) lt) a) b
  exact this
theorem alike_pints (ns : List Int) : AllAlike ((ns.map PV.int).map pd) ∧ Sortable ((ns.map PV.int).map pd) := by
  rw [List.map_map]
  exact ⟨PySem.W.AllAlike.of fun _ _ => rfl, PySem.W.Sortable.others fun b => ⟨(fun h => by cases h), (fun xs h => by cases h)⟩⟩
theorem alike_plts (ls : List (List Nat)) : AllAlike ((ls.map pS).map pd) ∧ Sortable ((ls.map pS).map pd) := by
  rw [List.map_map]
  exact ⟨PySem.W.AllAlike.of fun _ _ => rfl, PySem.W.Sortable.others fun b => ⟨(fun h => by cases h), (fun xs h => by cases h)⟩⟩
/-! ### min -/
def rMinD (K : PySem.W.Frag) : List V → Hp → VK → Prop := fun vs H Q => ∃ (a : Addr) (z0 : PV × V) (zs : Zs), vs = [.ref a] ∧ SqL K H a ((z0 :: zs).map Prod.snd) ∧ DpAll K H ((z0 :: zs).map Prod.snd) ((z0 :: zs).map fun z => pd z.1) ∧ PySem.W.AlikeAll ((z0 :: zs).map fun z => pd z.1) ∧
  (∀ z ∈ z0 :: zs, (pd z.1).canLay0 = true ∧ (pd z.1).depth ≤ 60) ∧ ∀ z ∈ z0 :: zs, pd z.1 = PySem.W.minD (pd z0.1) (zs.map fun z => pd z.1) → Q z.2 H
theorem depthAll_le {n : Nat} : ∀ {ds : List PyData}, (∀ d ∈ ds, d.depth ≤ n) → PyData.depthAll ds ≤ n
  | [], _ => by unfold PyData.depthAll; exact Nat.zero_le _
  | d :: ds, h => by
    unfold PyData.depthAll
    exact Nat.max_le.mpr ⟨h d List.mem_cons_self, depthAll_le fun x hx => h x (List.mem_cons_of_mem _ hx)⟩
theorem dpAll_get : ∀ {ds : List PyData} {vs : List V} {i : Nat} {d : PyData} {v : V}, DpAll K H vs ds → vs[i]? = some v → ds[i]? = some d → Dp K H v d
  | _, _, _, _, _, .nil, e, _ => by simp at e
  | _, _, 0, _, _, .cons h _, e, f => by
    simp at e f
    subst e f
    exact h
  | _, _, i + 1, _, _, .cons _ t, e, f => dpAll_get (i := i) t (by simpa using e) (by simpa using f)
theorem cr_minD (hc : X.calm = true) (hu : X.A.units + 65 < cLine) : CallR X (.builtin "min") (rMinD X.K) := by
  intro pins s σ H vs us Q I r h
  obtain ⟨a, z0, zs, rfl, hs, hd, hal, hok, q⟩ := h
  obtain ⟨its, rv, hl, hz⟩ := I.list hs
  rw [Vals.ref1 r]
  obtain ⟨as, hr⟩ := Dp.readsAll I _ _ its hd rv
  have hdp : PyData.depthAll ((z0 :: zs).map fun z => pd z.1) ≤ 60 := depthAll_le fun d hd => by
    obtain ⟨z, hz, rfl⟩ := List.mem_map.mp hd
    exact (hok z hz).2
  refine PySem.W.min_list_data (I.ok.hd hc) hl.isList (by simpa using hr) (by simpa using hal) (by rw [← List.map_cons (f := fun z : PV × V => pd z.1)]; omega) fun i v h' tk bs hv rd hk => ?_
  have hv' : its[i]? = some v := by simpa using hv
  have hlen := rv.length
  rw [List.length_map] at hlen
  have hi : i < (z0 :: zs).length := by
    have := (List.getElem?_eq_some_iff.mp hv').1
    omega
  have hzi : (z0 :: zs)[i]? = some (z0 :: zs)[i] := List.getElem?_eq_getElem hi
  have hz2 : ((z0 :: zs).map Prod.snd)[i]? = some (z0 :: zs)[i].2 := by rw [List.getElem?_map, hzi]; rfl
  obtain ⟨u, e1, e2⟩ := rv.get hz2
  rw [hv'] at e1
  cases e1
  have hm : (z0 :: zs)[i] ∈ z0 :: zs := List.getElem_mem hi
  have hdi : Dp X.K H (z0 :: zs)[i].2 (pd (z0 :: zs)[i].1) := dpAll_get hd (by rw [List.getElem?_map, hzi]; rfl) (by rw [List.getElem?_map, hzi]; rfl)
  obtain ⟨as', r1⟩ := Dp.reads I _ _ _ hdi e2
  have r2 := PySem.W.reads_keeps hk r1
  exact ⟨(z0 :: zs)[i].2, H, I.kept (t' := tk) hk, e2, q _ hm (PySem.SeqAt.Reads.unique _ _ _ _ _ (hok _ hm).1 r2 rd)⟩
/-- the least of a list, as data -/
def minP : List PV → PyData
  | [] => .none
  | x :: xs => PySem.W.minD (pd x) (xs.map pd)
/-- min(x), a list of data -/
def wMinD : WB := fun ρ rs Q => ∃ (ra : AV) (l : List PV), rs = [ra] ∧ look ρ ra = some (.lst l) ∧ l ≠ [] ∧ (∀ x ∈ l, Fl 9 x) ∧ PySem.W.AlikeAll (l.map pd) ∧ ∀ p ∈ l, pd p = minP l → Q (.fz p) ρ
theorem cp_minD : CaP C wMinD (rMinD C.K) := CaP.one (fun _ _ _ ⟨a, _, e, _⟩ => ⟨a, e⟩) fun G ρ ts σ H ra v Q' Q S ⟨_, l, e0, e, hn, hf, hal, w⟩ q => by
  cases e0
  obtain ⟨a, vs, rfl, h1, h2⟩ := S.top List.mem_cons_self e
  have hdl := Reps.dp hf (Reps.same msk_top h2)
  rw [pds_map] at hdl
  match l, hn, h2 with
  | p0 :: ps, _, h2 =>
    obtain ⟨z1, z2⟩ := zip_fst h2.length
    have hz := reps_zip h2
    have h3 := h2
    unfold Reps at h3
    obtain ⟨v0, vr, rfl, h4, h5⟩ := h3
    obtain ⟨y1, y2⟩ := zip_fst h5.length
    have em : (((p0, v0) :: ps.zip vr).map fun z => pd z.1) = (p0 :: ps).map pd := by
      rw [List.map_cons, List.map_cons, show (fun z : PV × V => pd z.1) = pd ∘ Prod.fst from rfl, ← List.map_map, y1]
    have em2 : ((ps.zip vr).map fun z => pd z.1) = ps.map pd := by
      rw [show (fun z : PV × V => pd z.1) = pd ∘ Prod.fst from rfl, ← List.map_map, y1]
    have es : ((p0, v0) :: ps.zip vr).map Prod.snd = v0 :: vr := by rw [List.map_cons, y2]
    refine ⟨a, (p0, v0), ps.zip vr, rfl, by rw [es]; exact SqL.of h1, by rw [es, em]; exact hdl, by rw [em]; exact hal, fun z hzm => ?_, fun z hzm hmin => ?_⟩
    · have : z.1 ∈ p0 :: ps := by
        rw [← z1]
        exact List.mem_map_of_mem hzm
      have := (hf _ this).ok
      exact ⟨this.1, by omega⟩
    · have hm : z.1 ∈ p0 :: ps := by
        rw [← z1]
        exact List.mem_map_of_mem hzm
      rw [em2] at hmin
      exact q _ _ (w z.1 hm hmin) _ _ (S.pop.push (Rep.popped (hz z hzm)))
end SyP
set_option autoImplicit false
/-! Pure words: equal data for the law's own comparison; a text times a number. -/
namespace Sy
open PySem PySem.Spec PyProof.Rows L2
/-- data of at most n levels, no list longer than a number -/
def okD : Nat → PyData → Prop
  | 0, _ => False
  | n + 1, .list ds => ds.length ≤ 100000 ∧ ∀ d ∈ ds, okD n d
  | n + 1, .tuple ds => ds.length ≤ 100000 ∧ ∀ d ∈ ds, okD n d
  | _ + 1, .dict _ => False
  | _ + 1, _ => True
end Sy
namespace Sy
open PySem PySem.Spec PyProof.Rows L2
theorem ty_tup {K : PySem.W.Frag} {H : Hp} {a : Addr} {xs : List V} (h : SqT K H a xs) : TyX K H (.ref a) (.type "tuple") := by
  rcases h with (h | ⟨o, h⟩) | ⟨o, its, n, h1, h2, _⟩
  · exact .base (.tup h)
  · exact .fTuple h
  · exact .kTuple h1 h2
theorem ty_lst {K : PySem.W.Frag} {H : Hp} {a : Addr} {xs : List V} (h : SqL K H a xs) : TyX K H (.ref a) (.type "list") := by
  rcases h with (h | ⟨o, h⟩) | ⟨o, its, n, h1, h2, _⟩
  · exact .base (.lst h)
  · exact .base (.frz h)
  · exact .kList h1 h2
theorem Same.put' {p : Addr} {o : HO} {H H1 : Hp} (k : Same H H1) (n : H p = none) : Same H (upd H1 p o) := fun b u e => by
  rw [upd_ne (ne_of_none e n)]
  exact k b u e
theorem tYes_ok {σ : L2.St} {H : Hp} {A B : Hp → Prop} (h : A H) : tYes σ H (fun b H3 => if b = true then A H3 else B H3) := by
  show (if true = true then A H else B H)
  rw [if_pos rfl]
  exact h
end Sy
namespace SyP
open PySem PySem.Spec PyProof.Rows L2 Sy
variable {K : PySem.W.Frag} {sa : SA} {H H' Hm : Hp} {G : Gh} {ρ ρ' : En} {ts ts' : Ts} {σ σ' : L2.St} {C : CC} {X : Cx}
/-- trees of at most n levels below 0, no row longer than a number -/
def Fk : Nat → PV → Prop
  | 0, _ => False
  | n + 1, .lst l => l.length ≤ 100000 ∧ ∀ x ∈ l, Fk n x
  | n + 1, .tup l => l.length ≤ 100000 ∧ ∀ x ∈ l, Fk n x
  | _ + 1, .dic _ _ => False
  | _ + 1, .strm => False
  | _ + 1, _ => True
theorem okD_of : ∀ {n : Nat} {p : PV}, Fk n p → okD n (pd p)
  | 0, _, h => h
  | n + 1, .non, _ => trivial
  | n + 1, .bl _, _ => trivial
  | n + 1, .int _, _ => trivial
  | n + 1, .str _, _ => trivial
  | n + 1, .lst l, h => by
    obtain ⟨h1, h2⟩ := h
    unfold pd
    rw [pds_map]
    exact ⟨by rw [List.length_map]; exact h1, fun d hd => by obtain ⟨x, hx, rfl⟩ := List.mem_map.mp hd; exact okD_of (h2 x hx)⟩
  | n + 1, .tup l, h => by
    obtain ⟨h1, h2⟩ := h
    unfold pd
    rw [pds_map]
    exact ⟨by rw [List.length_map]; exact h1, fun d hd => by obtain ⟨x, hx, rfl⟩ := List.mem_map.mp hd; exact okD_of (h2 x hx)⟩
  | _ + 1, .dic _ _, h => h.elim
  | _ + 1, .strm, h => h.elim
/-- what the law's comparison promises of equal data -/
def wfEqual (n : Nat) : WF := fun qs Q _ => ∃ p q, qs = [p, q] ∧ pd p = pd q ∧ Fl 9 p ∧ Fl 9 q ∧ Fk n p ∧ Q (.fz (.bl true))
/-- a text times a number -/
def rMulS : R2 := fun x y H Q => ∃ z n, x = .str z ∧ y = .int n ∧ z.length ≤ 16 ∧ 0 ≤ n ∧ n ≤ 1000 ∧ Q (.str (Txt.mul z n)) H
def wMulS : W2 := fun ρ ra rb Q => ∃ (l : List Nat) (n : Nat), look ρ ra = some (.str (lt l)) ∧ look ρ rb = some (.int (n : Nat)) ∧ l.length ≤ 16 ∧ n ≤ 1000 ∧ Q (.fz (.str (lt (List.replicate n l).flatten))) ρ
theorem fold_arr (l : List Nat) : ∀ (n : Nat) (acc : Array Nat), (List.replicate n l.toArray).foldl (· ++ ·) acc = (acc.toList ++ (List.replicate n l).flatten).toArray
  | 0, acc => by simp
  | n + 1, acc => by
    rw [List.replicate_succ, List.foldl_cons, fold_arr l n, List.replicate_succ, List.flatten_cons]
    simp
theorem mul_lt (l : List Nat) (n : Nat) : Txt.mul (lt l) n = lt (List.replicate n l).flatten := by
  unfold Txt.mul
  by_cases h0 : (n : Int) < 1
  · have : n = 0 := by omega
    subst this
    rfl
  · rw [if_neg h0]
    by_cases h1 : n = 1
    · subst h1
      rw [if_pos (by rfl)]
      simp
    · by_cases h2 : l = []
      · subst h2
        rw [if_pos (by simp [lt_len])]
        simp
      · have h3 : l.length ≠ 0 := fun e => h2 (List.length_eq_zero_iff.mp e)
        rw [if_neg (by simp [lt_len, h2]; omega)]
        show (⟨(List.replicate (n : Int).toNat l.toArray).foldl (· ++ ·) #[]⟩ : Str) = lt _
        rw [Int.toNat_natCast, fold_arr]
        simp [lt]
theorem o2_mulS : Op2 C wMulS rMulS := fun G ρ ts σ H x y ra rb Q' Q S ⟨l, n, e1, e2, hl, hn, w⟩ q =>
  ⟨lt l, n, (S.top mem1 e1).str, (S.top List.mem_cons_self e2).int, hl, by omega, by omega, by rw [mul_lt]; exact q _ _ w _ _ (S.pop.pop.pushSc rfl)⟩
end SyP
set_option autoImplicit false
/-! Pure words: ranges downwards. -/
namespace SyP
open PySem PySem.Spec PyProof.Rows L2 Sy
variable {K : PySem.W.Frag} {sa : SA} {H H' Hm : Hp} {G : Gh} {ρ ρ' : En} {ts ts' : Ts} {σ σ' : L2.St} {C : CC} {X : Cx} {a b c : Expr} {pos p1 p2 p3 : Pos} {wa wb wc w : WE} {e : Expr} {es : List Expr} {wr : WA}
/-- n numbers, from i downwards -/
def dnI (i : Int) (n : Nat) : List PV := (List.range n).map fun k => .int (i - (k : Nat))
theorem dnI_length {i : Int} {n : Nat} : (dnI i n).length = n := by unfold dnI; rw [List.length_map, List.length_range]
theorem dnI_get {i : Int} {n k : Nat} (h : k < n) : (dnI i n)[k]? = some (.int (i - (k : Nat))) := by
  unfold dnI
  rw [List.getElem?_map, List.getElem?_range h]
  rfl
theorem it_down {i : Int} {n : Nat} : ItOk K (Itc i (-1) n) [] (dnI i n) where
  fz := FzT.nil
  go := fun k G ρ ts σ H hi S => by
    rw [dnI_length] at hi
    exact hi
  stop := fun G ρ ts σ H S => by
    rw [dnI_length]
    exact Nat.le_refl _
  yld := fun k G ρ ts σ H x H' hi S y => by
    rw [dnI_length] at hi
    obtain ⟨rfl, rfl⟩ := walk_rangeC.yields k H x H' hi trivial y
    exact ⟨_, dnI_get hi, S.pushSc (show V.int _ = V.int _ by congr 1; omega)⟩
/-- range(a, b, -1) -/
def wiRangeDown (wr : WA) : WI := fun ρ Q E => wr ρ (fun rs ρ1 => ∃ ra rb rc i j, rs = [ra, rb, rc] ∧ look ρ1 ra = some (.int i) ∧ look ρ1 rb = some (.int j) ∧ look ρ1 rc = some (.int (-1)) ∧ (-(2 ^ 62) ≤ i ∧ i < 2 ^ 62) ∧ (-(2 ^ 62) ≤ j ∧ j < 2 ^ 62) ∧ Q (dnI i (i - j).toNat) ρ1) E
theorem mem2 {e f g : AV × V} {ts : Ts} : g ∈ e :: f :: g :: ts := List.mem_cons_of_mem _ (List.mem_cons_of_mem _ List.mem_cons_self)
theorem qi_rangeDown {tg : Expr} {p : Pos} (hg : Gl X "range") (hm : X.mg "range" = none) (ha : QA X C [a, b, c] wr)
    (hs : starEach [a, b, c] X.env = (false, eval a X.env) :: starEach [b, c] X.env := by rfl) (hpl : (backTo pos (starEach [b, c] X.env)).any (·.1) = false := by rfl) : QI X C tg (.Call (.Name "range" p) [a, b, c] [] pos) (wiRangeDown wr) :=
  PI.imp (pi_range3 hg hm ha hs hpl) fun σ H R ⟨G, ρ, ts, Q', E', S, w, q, ee⟩ => ⟨G, ρ, ts, _, E', S, w, fun rs ρ1 ⟨ra, rb, rc, i, j, er, e1, e2, e3, hi, hj, w⟩ vs H1 hl S1 => by
    subst er
    match vs, hl with
    | [x, y, z], _ =>
      have h1 := (S1.top (r := ra) (v := x) List.mem_cons_self e1).int
      have h2 := (S1.top (r := rb) (v := y) mem1 e2).int
      have h3 := (S1.top (r := rc) (v := z) mem2 e3).int
      exact ⟨i, j, -1, (i - j).toNat, by rw [h1, h2, h3], RgC.neg (by omega) (by omega) (by omega) (by omega), q _ _ w _ [] _ S1.pop.pop.pop it_down⟩, ee⟩
end SyP
set_option autoImplicit false
/-! Pure words: what the laws' specs share. -/
namespace SyP
open PySem PySem.Spec PyProof.Rows L2 Sy
theorem rgI_nat (lo n : Nat) : rgI (lo : Nat) n = (List.range n).map fun i => PV.int ((lo + i : Nat) : Int) := by
  unfold rgI
  exact List.map_congr_left fun i _ => by rw [Int.natCast_add]
theorem rgI_map (lo : Int) (n : Nat) : rgI lo n = ((List.range n).map fun (i : Nat) => lo + (i : Int)).map PV.int := by
  unfold rgI
  rw [List.map_map]
  rfl
theorem drop_at {α : Type} {l : List α} {i : Nat} {x : α} (h : l[i]? = some x) : l.drop i = x :: l.drop (i + 1) := by
  obtain ⟨hi, e⟩ := List.getElem?_eq_some_iff.mp h
  rw [List.drop_eq_getElem_cons hi, e]
theorem atI_int {xs : List Int} {k : Nat} (h : k < xs.length) : atI (xs.map PV.int) (k : Int) = some (.int (xs.getD k 0)) := by
  refine atI_nat ?_
  rw [List.getElem?_map, List.getElem?_eq_getElem h, List.getD_eq_getElem?_getD, List.getElem?_eq_getElem h]
  rfl
theorem emod_1 (n i : Nat) : ((n : Int) % (1 + (i : Int)) = 0) = (n % (1 + i) = 0) := propext (by
  rw [show (1 + (i : Int)) = ((1 + i : Nat) : Int) by omega, ← Int.natCast_emod]
  exact Int.natCast_eq_zero)
theorem ediv_1 (n i : Nat) : (n : Int) / (1 + (i : Int)) = ((n / (1 + i) : Nat) : Int) := by
  rw [show (1 + (i : Int)) = ((1 + i : Nat) : Int) by omega, ← Int.natCast_ediv]
theorem cutL_to1 {α : Type} (l : List α) (k : Nat) : cutL l none (some (1 + (k : Int))) = l.take (1 + k) := by
  rw [show (1 + (k : Int)) = ((1 + k : Nat) : Int) by omega, cutL_to]
theorem cutL_from1 {α : Type} (l : List α) (k : Nat) : cutL l (some (1 + (k : Int))) none = l.drop (1 + k) := by
  rw [show (1 + (k : Int)) = ((1 + k : Nat) : Int) by omega, cutL_from]
theorem cutL_to_one {α : Type} (l : List α) : cutL l none (some 1) = l.take 1 := cutL_to l 1
theorem cutL_from_one {α : Type} (l : List α) : cutL l (some 1) none = l.drop 1 := cutL_from l 1
theorem ex_cast1 {d : Nat} {p : Nat → Prop} : (∃ K : Nat, (1 + (d : Int) = K) ∧ p K) = p (1 + d) := propext ⟨fun ⟨K, e, h⟩ => by
  have : K = 1 + d := by omega
  rwa [this] at h, fun h => ⟨1 + d, by omega, h⟩⟩
/-- texts over three letters -/
def ab (l : List Nat) : Prop := ∀ c ∈ l, 97 ≤ c ∧ c ≤ 99
theorem ab_ok {l : List Nat} (h : ab l) : okT l := fun c hc => by have := h c hc; omega
theorem ab_app {l m : List Nat} : ab (l ++ m) = (ab l ∧ ab m) := propext ⟨fun h => ⟨fun c hc => h c (List.mem_append_left _ hc), fun c hc => h c (List.mem_append_right _ hc)⟩, fun h c hc => (List.mem_append.mp hc).elim (h.1 c) (h.2 c)⟩
theorem ab_take {l : List Nat} (h : ab l) (k : Nat) : ab (l.take k) := fun c hc => h c (List.mem_of_mem_take hc)
theorem ab_drop {l : List Nat} (h : ab l) (k : Nat) : ab (l.drop k) := fun c hc => h c (List.mem_of_mem_drop hc)
theorem s_a : ("a" : Str) = lt [97] := by decide +kernel
theorem s_ab : ("ab" : Str) = lt [97, 98] := by decide +kernel
theorem s_abc : ("abc" : Str) = lt [97, 98, 99] := by decide +kernel
theorem s_emp : ("" : Str) = lt [] := by decide +kernel
theorem ab_mem {l : List Nat} (h : ab l) {c : Nat} (hc : c ∈ l) : c ∈ ("abc" : Str).cps := by
  rw [s_abc]
  have := h c hc
  unfold lt
  simp
  omega
/-- a filter with one that fits -/
theorem filter_one {n j : Nat} (p : Nat → Bool) (hj : j < n) (h : ∀ i, i < n → p i = true → i = j) : (List.range n).filter p = if p j = true then [j] else [] := by
  induction n with
  | zero => omega
  | succ n ih =>
    rw [List.range_succ, List.filter_append]
    by_cases e : j = n
    · subst e
      have h0 : (List.range j).filter p = [] := List.filter_eq_nil_iff.mpr fun a ha hp => by
        have := List.mem_range.mp ha
        have := h a (by omega) hp
        omega
      rw [h0, List.nil_append]
      cases hp : p j <;> simp [hp]
    · rw [ih (by omega) fun i hi hp => h i (by omega) hp]
      have : p n = false := by
        cases hp : p n with
        | false => rfl
        | true => have := h n (by omega) hp; omega
      simp [this]
/-- the least by a test that finds it -/
theorem fold_least {α : Type} (f : α → α → Bool) (t : α) : ∀ (xs : List α) (a : α), (∀ y ∈ a :: xs, y = t ∨ (f t y = true ∧ f y t = false)) → (a = t ∨ t ∈ xs) → xs.foldl (fun a y => if f y a = true then y else a) a = t
  | [], a, _, h => by
    rcases h with h | h
    · exact h
    · cases h
  | x :: xs, a, hy, h => by
    rw [List.foldl_cons]
    refine fold_least f t xs _ (fun y hm => ?_) ?_
    · rcases List.mem_cons.mp hm with rfl | hm
      · split
        · exact hy x (List.mem_cons_of_mem _ List.mem_cons_self)
        · exact hy a List.mem_cons_self
      · exact hy y (List.mem_cons_of_mem _ (List.mem_cons_of_mem _ hm))
    · rcases h with rfl | h
      · rcases hy x (List.mem_cons_of_mem _ List.mem_cons_self) with rfl | h2
        · left
          split <;> rfl
        · left
          rw [if_neg (by rw [h2.2]; decide)]
      · rcases List.mem_cons.mp h with rfl | h
        · rcases hy a List.mem_cons_self with rfl | h2
          · left
            split <;> rfl
          · left
            rw [if_pos h2.1]
        · exact .inr h
/-- a comprehension of one item a turn, of which only P is known -/
theorem wColl_one {turn : PV → (List PV → Prop) → Prop} {Q : List PV → Prop} (P : PV → Prop) : ∀ {items acc : List PV}, (∀ x ∈ items, ∀ Kk : List PV → Prop, (∀ p, P p → Kk [p]) → turn x Kk) → (∀ ps : List PV, ps.length = items.length → (∀ p ∈ ps, P p) → Q (acc ++ ps)) → wColl turn items acc Q
  | [], acc, _, q => by
    have := q [] rfl (fun p hp => nomatch hp)
    rw [List.append_nil] at this
    exact this
  | x :: xs, acc, h, q => h x List.mem_cons_self _ fun p hp => wColl_one P (fun y hy => h y (List.mem_cons_of_mem _ hy)) fun ps hl hps => by
    have := q (p :: ps) (by simp [hl]) fun z hz => by
      rcases List.mem_cons.mp hz with rfl | hz
      · exact hp
      · exact hps z hz
    rw [List.append_cons] at this
    exact this
theorem lift_map {α : Type} (f : α → PV) (R : α → Prop) : ∀ ps : List PV, (∀ p ∈ ps, ∃ a, R a ∧ p = f a) → ∃ as : List α, ps = as.map f ∧ ∀ a ∈ as, R a
  | [], _ => ⟨[], rfl, fun a h => nomatch h⟩
  | p :: ps, h => by
    obtain ⟨a, ha, rfl⟩ := h p List.mem_cons_self
    obtain ⟨as, rfl, hs⟩ := lift_map f R ps fun q hq => h q (List.mem_cons_of_mem _ hq)
    exact ⟨a :: as, rfl, fun b hb => by
      rcases List.mem_cons.mp hb with rfl | hb
      · exact ha
      · exact hs b hb⟩
theorem joinL_nil : ∀ ps : List (List Nat), TL.joinL [] ps = ps.flatten
  | [] => rfl
  | [p] => by simp [TL.joinL]
  | p :: q :: r => by
    show p ++ ([] ++ TL.joinL [] (q :: r)) = p ++ (q :: r).flatten
    rw [List.nil_append, joinL_nil (q :: r)]
theorem join_lt (cs : List Nat) : Txt.join "" (cs.map fun c => lt [c]) = lt cs := by
  have h : TL.tl (Txt.join "" (cs.map fun c => lt [c])) = cs := by
    rw [TL.join_eq, TL.tl_join, List.map_map]
    refine (joinL_nil _).trans ?_
    have e : (TL.tl ∘ fun c => lt [c]) = fun c => [c] := rfl
    rw [e]
    induction cs with
    | nil => rfl
    | cons c cs ih => rw [List.map_cons, List.flatten_cons, ih]; rfl
  exact TL.ext_tl h
end SyP
namespace Sy
open PySem PySem.Spec PyProof.Rows L2 SyP
def wf__law_next : WF := fun qs Q _ => ∃ m : Int, qs = [.strm, .int m] ∧ 0 < m ∧ m < 1073741824 ∧ ∀ d : Nat, (d : Int) < m → Q (.fz (.int d))
def wf__law_equal : WF := wfEqual 4
def wb_has_letters : WS :=
  (wSeq (wIfS (wOr (wNot (wTru (wIsi "str" (wVar 0)))) (wNot (wB (wChain .LtE .LtE (wVar 1) (wCB wLen (wCons (wVar 0) wNil)) (wVar 2))))) (wRet (wC (.bl false))) wNext)
     (wRet (wCB (wBools fun bs => bs.all id) (wCons (wLc (wiRow (wVar 0)) [3] (wgN 3) wTrue (wOp (wIn false) (wVar 3) (wC (.str "abc")))) wNil))))
def wr_has_letters : WF := wDef 4 wb_has_letters

def wf_has_letters : WF := fun qs Q _ => ∃ (l : List Nat) (lo hi : Int), qs = [pS l, .int lo, .int hi] ∧ ab l ∧ lo ≤ l.length ∧ l.length ≤ hi ∧ l.length ≤ 1000 ∧ Q (.fz (.bl true))
theorem le_has_letters : ∀ qs Q E, wf_has_letters qs Q E → wr_has_letters qs Q E := by
  rintro qs Q E ⟨l, lo, hi, rfl, ha, h1, h2, h3, q⟩
  simp [wDef, wSeq, wSet, wC, wKeep, keepA, wFor, wiRange1, wiRange2, wiRow, SyP.rowOf, wCons, wNil, wVar, look, wgN, wgTup, wgCons, wgNil, wAug, wAugAdd, wAugMul, wRet, wRetN, retA, wExpr, wIfS, wNext, wBreak, wCont, wOp, wII, wAdd, wSub, wMul, wMod, wDiv, wNeg, wEq, wIn, wIsN, wCmp, cmpI, cmpS, wChain, wB, wTru, truth, szOk, wAnd, wOr, wNot, wAndV, wOrV, wNotV, wIf, wTup, wLst, fzAll, fz1, wIx, wSl, wNo, wYes, SyP.part, wCB, wLen, lenP, wListOf, wTupOf, itemsP, wBools, wSum, wMax, wMin, wMinS, wM2, wInt, intOf, wIsi, isTy, wCall, wN, wM1, kAppend, kExtend, kPopAt, wPop, wAsg, wLc, wTrue, wTurn, wipeE, wLc2, wTurn2, wRaise, wSetIx, wStarts, wEnds, wStr2, wJoin, wSIndex, wLenSet, frzS, fl_int, fl_bl, fl_non, fl_str, eqp_int, eqp_str, lt_len, lt_app, lt_inj, cutS_lt, cutL_to, cutL_from, cutL_mid, rgI_length, Int.natCast_inj, sizeLine_eq, strOk_lt, wiEnum, wiZip, wiRev, wiRevR1, seqOf, wRevS, wRevT, wRevL, wListRg1, wIndexL, wSortedI, wSortedS, wSortedT, wTry, wSortedD, wMinD, wGcd, wMulS, wf__law_equal, wfEqual, wiRangeDown, and_assoc, wr_has_letters, wb_has_letters]
  rw [if_pos h1, if_pos h2]
  have hs : (SyP.signs (lt l)).length = l.length := by rw [signs_lt, List.length_map]
  refine ⟨by omega, by omega, ?_⟩
  rw [signs_lt]
  refine wColl_fm (fun c => PV.str (lt [c])) (fun c => [PV.bl true]) (fun c hc Kk k => ?_) ?_
  · simp [wDef, wSeq, wSet, wC, wKeep, keepA, wFor, wiRange1, wiRange2, wiRow, SyP.rowOf, wCons, wNil, wVar, look, wgN, wgTup, wgCons, wgNil, wAug, wAugAdd, wAugMul, wRet, wRetN, retA, wExpr, wIfS, wNext, wBreak, wCont, wOp, wII, wAdd, wSub, wMul, wMod, wDiv, wNeg, wEq, wIn, wIsN, wCmp, cmpI, cmpS, wChain, wB, wTru, truth, szOk, wAnd, wOr, wNot, wAndV, wOrV, wNotV, wIf, wTup, wLst, fzAll, fz1, wIx, wSl, wNo, wYes, SyP.part, wCB, wLen, lenP, wListOf, wTupOf, itemsP, wBools, wSum, wMax, wMin, wMinS, wM2, wInt, intOf, wIsi, isTy, wCall, wN, wM1, kAppend, kExtend, kPopAt, wPop, wAsg, wLc, wTrue, wTurn, wipeE, wLc2, wTurn2, wRaise, wSetIx, wStarts, wEnds, wStr2, wJoin, wSIndex, wLenSet, frzS, fl_int, fl_bl, fl_non, fl_str, eqp_int, eqp_str, lt_len, lt_app, lt_inj, cutS_lt, cutL_to, cutL_from, cutL_mid, rgI_length, Int.natCast_inj, sizeLine_eq, strOk_lt, wiEnum, wiZip, wiRev, wiRevR1, seqOf, wRevS, wRevT, wRevL, wListRg1, wIndexL, wSortedI, wSortedS, wSortedT, wTry, wSortedD, wMinD, wGcd, wMulS, wf__law_equal, wfEqual, wiRangeDown, and_assoc]
    exact ⟨c, rfl, by rw [decide_eq_true (ab_mem ha hc)]; exact k⟩
  · rw [flatMap_one, List.nil_append]
    refine ⟨l.map fun _ => true, by rw [List.map_map]; rfl, ?_⟩
    have e : (l.map fun _ => true).all id = true := by simp
    rw [e]
    exact q
def wb_is_ring : WS :=
  (wRet (wCall (wN 3 wf_has_letters) (wCons (wVar 0) (wCons (wC (.int 1)) (wCons (wC (.int 12)) wNil)))))
def wr_is_ring : WF := wDef 1 wb_is_ring

def wf_is_ring : WF := fun qs Q _ => ∃ (l : List Nat), qs = [pS l] ∧ ab l ∧ 1 ≤ l.length ∧ l.length ≤ 12 ∧ Q (.fz (.bl true))
theorem le_is_ring : ∀ qs Q E, wf_is_ring qs Q E → wr_is_ring qs Q E := by
  rintro qs Q E ⟨l, rfl, ha, h1, h2, q⟩
  simp [wDef, wSeq, wSet, wC, wKeep, keepA, wFor, wiRange1, wiRange2, wiRow, SyP.rowOf, wCons, wNil, wVar, look, wgN, wgTup, wgCons, wgNil, wAug, wAugAdd, wAugMul, wRet, wRetN, retA, wExpr, wIfS, wNext, wBreak, wCont, wOp, wII, wAdd, wSub, wMul, wMod, wDiv, wNeg, wEq, wIn, wIsN, wCmp, cmpI, cmpS, wChain, wB, wTru, truth, szOk, wAnd, wOr, wNot, wAndV, wOrV, wNotV, wIf, wTup, wLst, fzAll, fz1, wIx, wSl, wNo, wYes, SyP.part, wCB, wLen, lenP, wListOf, wTupOf, itemsP, wBools, wSum, wMax, wMin, wMinS, wM2, wInt, intOf, wIsi, isTy, wCall, wN, wM1, kAppend, kExtend, kPopAt, wPop, wAsg, wLc, wTrue, wTurn, wipeE, wLc2, wTurn2, wRaise, wSetIx, wStarts, wEnds, wStr2, wJoin, wSIndex, wLenSet, frzS, fl_int, fl_bl, fl_non, fl_str, eqp_int, eqp_str, lt_len, lt_app, lt_inj, cutS_lt, cutL_to, cutL_from, cutL_mid, rgI_length, Int.natCast_inj, sizeLine_eq, strOk_lt, wiEnum, wiZip, wiRev, wiRevR1, seqOf, wRevS, wRevT, wRevL, wListRg1, wIndexL, wSortedI, wSortedS, wSortedT, wTry, wSortedD, wMinD, wGcd, wMulS, wf__law_equal, wfEqual, wiRangeDown, and_assoc, wr_is_ring, wb_is_ring, wf_has_letters]
  exact ⟨ha, by omega, by omega, by omega, q⟩
def wb_check_ring : WS :=
  (wIfS (wNot (wTru (wCall (wN 1 wf_is_ring) (wCons (wVar 0) wNil)))) (wRaise "BadValue" "name" (wVar 1)) wNext)
def wr_check_ring : WF := wDef 2 wb_check_ring

def wf_check_ring : WF := fun qs Q _ => ∃ (l : List Nat) (n : PV), qs = [pS l, n] ∧ ab l ∧ 1 ≤ l.length ∧ l.length ≤ 12 ∧ Q (.fz .non)
theorem le_check_ring : ∀ qs Q E, wf_check_ring qs Q E → wr_check_ring qs Q E := by
  rintro qs Q E ⟨l, n, rfl, ha, h1, h2, q⟩
  simp [wDef, wSeq, wSet, wC, wKeep, keepA, wFor, wiRange1, wiRange2, wiRow, SyP.rowOf, wCons, wNil, wVar, look, wgN, wgTup, wgCons, wgNil, wAug, wAugAdd, wAugMul, wRet, wRetN, retA, wExpr, wIfS, wNext, wBreak, wCont, wOp, wII, wAdd, wSub, wMul, wMod, wDiv, wNeg, wEq, wIn, wIsN, wCmp, cmpI, cmpS, wChain, wB, wTru, truth, szOk, wAnd, wOr, wNot, wAndV, wOrV, wNotV, wIf, wTup, wLst, fzAll, fz1, wIx, wSl, wNo, wYes, SyP.part, wCB, wLen, lenP, wListOf, wTupOf, itemsP, wBools, wSum, wMax, wMin, wMinS, wM2, wInt, intOf, wIsi, isTy, wCall, wN, wM1, kAppend, kExtend, kPopAt, wPop, wAsg, wLc, wTrue, wTurn, wipeE, wLc2, wTurn2, wRaise, wSetIx, wStarts, wEnds, wStr2, wJoin, wSIndex, wLenSet, frzS, fl_int, fl_bl, fl_non, fl_str, eqp_int, eqp_str, lt_len, lt_app, lt_inj, cutS_lt, cutL_to, cutL_from, cutL_mid, rgI_length, Int.natCast_inj, sizeLine_eq, strOk_lt, wiEnum, wiZip, wiRev, wiRevR1, seqOf, wRevS, wRevT, wRevL, wListRg1, wIndexL, wSortedI, wSortedS, wSortedT, wTry, wSortedD, wMinD, wGcd, wMulS, wf__law_equal, wfEqual, wiRangeDown, and_assoc, wr_check_ring, wb_check_ring, wf_is_ring]
  exact ⟨ha, h1, h2, q⟩
def rot (l : List Nat) (k : Nat) : List Nat := l.drop k ++ l.take k
def wb_turned : WS :=
  (wRet (wOp wAdd (wSl (wVar 0) (wYes (wVar 1)) wNo) (wSl (wVar 0) wNo (wYes (wVar 1)))))
def wr_turned : WF := wDef 2 wb_turned

def wf_turned : WF := fun qs Q _ => ∃ (l : List Nat) (k : Nat), qs = [pS l, .int (k : Nat)] ∧ l.length ≤ 100 ∧ Q (.fz (pS (rot l k)))
theorem le_turned : ∀ qs Q E, wf_turned qs Q E → wr_turned qs Q E := by
  rintro qs Q E ⟨l, k, rfl, h1, q⟩
  simp [wDef, wSeq, wSet, wC, wKeep, keepA, wFor, wiRange1, wiRange2, wiRow, SyP.rowOf, wCons, wNil, wVar, look, wgN, wgTup, wgCons, wgNil, wAug, wAugAdd, wAugMul, wRet, wRetN, retA, wExpr, wIfS, wNext, wBreak, wCont, wOp, wII, wAdd, wSub, wMul, wMod, wDiv, wNeg, wEq, wIn, wIsN, wCmp, cmpI, cmpS, wChain, wB, wTru, truth, szOk, wAnd, wOr, wNot, wAndV, wOrV, wNotV, wIf, wTup, wLst, fzAll, fz1, wIx, wSl, wNo, wYes, SyP.part, wCB, wLen, lenP, wListOf, wTupOf, itemsP, wBools, wSum, wMax, wMin, wMinS, wM2, wInt, intOf, wIsi, isTy, wCall, wN, wM1, kAppend, kExtend, kPopAt, wPop, wAsg, wLc, wTrue, wTurn, wipeE, wLc2, wTurn2, wRaise, wSetIx, wStarts, wEnds, wStr2, wJoin, wSIndex, wLenSet, frzS, fl_int, fl_bl, fl_non, fl_str, eqp_int, eqp_str, lt_len, lt_app, lt_inj, cutS_lt, cutL_to, cutL_from, cutL_mid, rgI_length, Int.natCast_inj, sizeLine_eq, strOk_lt, wiEnum, wiZip, wiRev, wiRevR1, seqOf, wRevS, wRevT, wRevL, wListRg1, wIndexL, wSortedI, wSortedS, wSortedT, wTry, wSortedD, wMinD, wGcd, wMulS, wf__law_equal, wfEqual, wiRangeDown, and_assoc, wr_turned, wb_turned]
  exact ⟨by omega, by omega, q⟩
theorem rot_ab {l : List Nat} (h : ab l) (k : Nat) : ab (rot l k) := by
  unfold rot
  rw [ab_app]
  exact ⟨ab_drop h k, ab_take h k⟩
/-! ### the root -/
def powB (l : List Nat) (s m : Nat) : Bool := decide ((List.replicate m (l.take s)).flatten = l)
def good (l : List Nat) (s : Nat) : Bool := powB l s (l.length / s) && decide (l.length % s = 0)
def rootI (l : List Nat) : Nat := ((List.range l.length).filter fun i => good l (1 + i)).headD 0
theorem rootI_get {l : List Nat} (h : 1 ≤ l.length) : ((List.range l.length).filter fun i => good l (1 + i))[0]? = some (rootI l) := by
  have hm : l.length - 1 ∈ (List.range l.length).filter fun i => good l (1 + i) := by
    refine List.mem_filter.mpr ⟨List.mem_range.mpr (by omega), ?_⟩
    have e : 1 + (l.length - 1) = l.length := by omega
    unfold good powB
    rw [e, Nat.div_self (by omega)]
    simp
  unfold rootI
  cases hf : (List.range l.length).filter fun i => good l (1 + i) with
  | nil => rw [hf] at hm; cases hm
  | cons x xs => rfl
def wb_root_of : WS :=
  (wSeq (wSet 1 (wLc (wiRange2 (wCons (wC (.int 1)) (wCons (wOp wAdd (wCB wLen (wCons (wVar 0) wNil)) (wC (.int 1))) wNil))) [2] (wgN 2) (wB (wOp (wEq false) (wOp wMod (wCB wLen (wCons (wVar 0) wNil)) (wVar 2)) (wC (.int 0)))) (wVar 2)))
     (wRet (wOp wIx (wLc (wiRow (wVar 1)) [2] (wgN 2) (wB (wOp (wEq false) (wOp wMulS (wSl (wVar 0) wNo (wYes (wVar 2))) (wOp wDiv (wCB wLen (wCons (wVar 0) wNil)) (wVar 2))) (wVar 0))) (wSl (wVar 0) wNo (wYes (wVar 2)))) (wC (.int 0)))))
def wr_root_of : WF := wDef 3 wb_root_of

def wf_root_of : WF := fun qs Q _ => ∃ (l : List Nat), qs = [pS l] ∧ ab l ∧ 1 ≤ l.length ∧ l.length ≤ 12 ∧ Q (.fz (pS (l.take (1 + rootI l))))
theorem le_root_of : ∀ qs Q E, wf_root_of qs Q E → wr_root_of qs Q E := by
  rintro qs Q E ⟨l, rfl, ha, h1, h2, q⟩
  simp [wDef, wSeq, wSet, wC, wKeep, keepA, wFor, wiRange1, wiRange2, wiRow, SyP.rowOf, wCons, wNil, wVar, look, wgN, wgTup, wgCons, wgNil, wAug, wAugAdd, wAugMul, wRet, wRetN, retA, wExpr, wIfS, wNext, wBreak, wCont, wOp, wII, wAdd, wSub, wMul, wMod, wDiv, wNeg, wEq, wIn, wIsN, wCmp, cmpI, cmpS, wChain, wB, wTru, truth, szOk, wAnd, wOr, wNot, wAndV, wOrV, wNotV, wIf, wTup, wLst, fzAll, fz1, wIx, wSl, wNo, wYes, SyP.part, wCB, wLen, lenP, wListOf, wTupOf, itemsP, wBools, wSum, wMax, wMin, wMinS, wM2, wInt, intOf, wIsi, isTy, wCall, wN, wM1, kAppend, kExtend, kPopAt, wPop, wAsg, wLc, wTrue, wTurn, wipeE, wLc2, wTurn2, wRaise, wSetIx, wStarts, wEnds, wStr2, wJoin, wSIndex, wLenSet, frzS, fl_int, fl_bl, fl_non, fl_str, eqp_int, eqp_str, lt_len, lt_app, lt_inj, cutS_lt, cutL_to, cutL_from, cutL_mid, rgI_length, Int.natCast_inj, sizeLine_eq, strOk_lt, wiEnum, wiZip, wiRev, wiRevR1, seqOf, wRevS, wRevT, wRevL, wListRg1, wIndexL, wSortedI, wSortedS, wSortedT, wTry, wSortedD, wMinD, wGcd, wMulS, wf__law_equal, wfEqual, wiRangeDown, and_assoc, wr_root_of, wb_root_of]
  rw [show rgI 1 l.length = _ from rgI_nat 1 l.length]
  refine ⟨by omega, ⟨by omega, by omega⟩, ⟨by omega, by omega⟩, by omega, wColl_fm (fun i : Nat => PV.int ((1 + i : Nat) : Int)) (fun i => if decide (l.length % (1 + i) = 0) = true then [PV.int ((1 + i : Nat) : Int)] else []) (fun i hi Kk k => ?_) ?_⟩
  · simp [wDef, wSeq, wSet, wC, wKeep, keepA, wFor, wiRange1, wiRange2, wiRow, SyP.rowOf, wCons, wNil, wVar, look, wgN, wgTup, wgCons, wgNil, wAug, wAugAdd, wAugMul, wRet, wRetN, retA, wExpr, wIfS, wNext, wBreak, wCont, wOp, wII, wAdd, wSub, wMul, wMod, wDiv, wNeg, wEq, wIn, wIsN, wCmp, cmpI, cmpS, wChain, wB, wTru, truth, szOk, wAnd, wOr, wNot, wAndV, wOrV, wNotV, wIf, wTup, wLst, fzAll, fz1, wIx, wSl, wNo, wYes, SyP.part, wCB, wLen, lenP, wListOf, wTupOf, itemsP, wBools, wSum, wMax, wMin, wMinS, wM2, wInt, intOf, wIsi, isTy, wCall, wN, wM1, kAppend, kExtend, kPopAt, wPop, wAsg, wLc, wTrue, wTurn, wipeE, wLc2, wTurn2, wRaise, wSetIx, wStarts, wEnds, wStr2, wJoin, wSIndex, wLenSet, frzS, fl_int, fl_bl, fl_non, fl_str, eqp_int, eqp_str, lt_len, lt_app, lt_inj, cutS_lt, cutL_to, cutL_from, cutL_mid, rgI_length, Int.natCast_inj, sizeLine_eq, strOk_lt, wiEnum, wiZip, wiRev, wiRevR1, seqOf, wRevS, wRevT, wRevL, wListRg1, wIndexL, wSortedI, wSortedS, wSortedT, wTry, wSortedD, wMinD, wGcd, wMulS, wf__law_equal, wfEqual, wiRangeDown, and_assoc, emod_1]
    by_cases c : l.length % (1 + i) = 0
    · simp [c] at k ⊢
      exact ⟨by omega, by omega, k⟩
    · simp [c] at k ⊢
      exact ⟨by omega, by omega, k⟩
  · rw [flatMap_if, List.nil_append]
    simp [wDef, wSeq, wSet, wC, wKeep, keepA, wFor, wiRange1, wiRange2, wiRow, SyP.rowOf, wCons, wNil, wVar, look, wgN, wgTup, wgCons, wgNil, wAug, wAugAdd, wAugMul, wRet, wRetN, retA, wExpr, wIfS, wNext, wBreak, wCont, wOp, wII, wAdd, wSub, wMul, wMod, wDiv, wNeg, wEq, wIn, wIsN, wCmp, cmpI, cmpS, wChain, wB, wTru, truth, szOk, wAnd, wOr, wNot, wAndV, wOrV, wNotV, wIf, wTup, wLst, fzAll, fz1, wIx, wSl, wNo, wYes, SyP.part, wCB, wLen, lenP, wListOf, wTupOf, itemsP, wBools, wSum, wMax, wMin, wMinS, wM2, wInt, intOf, wIsi, isTy, wCall, wN, wM1, kAppend, kExtend, kPopAt, wPop, wAsg, wLc, wTrue, wTurn, wipeE, wLc2, wTurn2, wRaise, wSetIx, wStarts, wEnds, wStr2, wJoin, wSIndex, wLenSet, frzS, fl_int, fl_bl, fl_non, fl_str, eqp_int, eqp_str, lt_len, lt_app, lt_inj, cutS_lt, cutL_to, cutL_from, cutL_mid, rgI_length, Int.natCast_inj, sizeLine_eq, strOk_lt, wiEnum, wiZip, wiRev, wiRevR1, seqOf, wRevS, wRevT, wRevL, wListRg1, wIndexL, wSortedI, wSortedS, wSortedT, wTry, wSortedD, wMinD, wGcd, wMulS, wf__law_equal, wfEqual, wiRangeDown, and_assoc]
    refine ⟨Nat.le_trans (List.length_filter_le _ _) (by rw [List.length_range]; omega), wColl_fm (fun i : Nat => PV.int (1 + (i : Int))) (fun i => if powB l (1 + i) (l.length / (1 + i)) = true then [pS (l.take (1 + i))] else []) (fun i hi Kk k => ?_) ?_⟩
    · have hi := (List.mem_filter.mp hi).1
      have hi := List.mem_range.mp hi
      simp [wDef, wSeq, wSet, wC, wKeep, keepA, wFor, wiRange1, wiRange2, wiRow, SyP.rowOf, wCons, wNil, wVar, look, wgN, wgTup, wgCons, wgNil, wAug, wAugAdd, wAugMul, wRet, wRetN, retA, wExpr, wIfS, wNext, wBreak, wCont, wOp, wII, wAdd, wSub, wMul, wMod, wDiv, wNeg, wEq, wIn, wIsN, wCmp, cmpI, cmpS, wChain, wB, wTru, truth, szOk, wAnd, wOr, wNot, wAndV, wOrV, wNotV, wIf, wTup, wLst, fzAll, fz1, wIx, wSl, wNo, wYes, SyP.part, wCB, wLen, lenP, wListOf, wTupOf, itemsP, wBools, wSum, wMax, wMin, wMinS, wM2, wInt, intOf, wIsi, isTy, wCall, wN, wM1, kAppend, kExtend, kPopAt, wPop, wAsg, wLc, wTrue, wTurn, wipeE, wLc2, wTurn2, wRaise, wSetIx, wStarts, wEnds, wStr2, wJoin, wSIndex, wLenSet, frzS, fl_int, fl_bl, fl_non, fl_str, eqp_int, eqp_str, lt_len, lt_app, lt_inj, cutS_lt, cutL_to, cutL_from, cutL_mid, rgI_length, Int.natCast_inj, sizeLine_eq, strOk_lt, wiEnum, wiZip, wiRev, wiRevR1, seqOf, wRevS, wRevT, wRevL, wListRg1, wIndexL, wSortedI, wSortedS, wSortedT, wTry, wSortedD, wMinD, wGcd, wMulS, wf__law_equal, wfEqual, wiRangeDown, and_assoc, emod_1, cutL_to1, List.length_take]
      have hx : ab (List.replicate (l.length / (1 + i)) (l.take (1 + i))).flatten := fun c hc => by
        obtain ⟨m, hm, hc⟩ := List.mem_flatten.mp hc
        rw [List.eq_of_mem_replicate hm] at hc
        exact ha c (List.mem_of_mem_take hc)
      have hd : l.length / (1 + i) ≤ l.length := Nat.div_le_self _ _
      refine ⟨by omega, ⟨by omega, by omega⟩, l.length / (1 + i), ediv_1 _ _, by omega, by omega, ab_ok hx, ab_ok ha, ?_⟩
      unfold powB at k
      by_cases c : (List.replicate (l.length / (1 + i)) (l.take (1 + i))).flatten = l
      · simp [c] at k ⊢
        exact ⟨by omega, k⟩
      · simp [c] at k ⊢
        exact k
    · rw [flatMap_if, List.nil_append, List.filter_filter]
      refine ⟨_, ?_, q⟩
      rw [show (0 : Int) = ((0 : Nat) : Int) from rfl]
      refine atI_nat ?_
      rw [List.getElem?_map]
      have := rootI_get h1
      unfold good at this
      rw [this]
      rfl
def wb_root : WS :=
  (wSeq (wExpr (wCall (wN 2 wf_check_ring) (wCons (wVar 0) (wCons (wC (.str "ring")) wNil))))
     (wSeq (wSet 1 (wCall (wN 1 wf_root_of) (wCons (wVar 0) wNil)))
     (wRet (wTup (wCons (wVar 1) (wCons (wOp wDiv (wCB wLen (wCons (wVar 0) wNil)) (wCB wLen (wCons (wVar 1) wNil))) wNil))))))
def wr_root : WF := wDef 2 wb_root

def wf_root : WF := fun qs Q _ => ∃ (l : List Nat), qs = [pS l] ∧ ab l ∧ 1 ≤ l.length ∧ l.length ≤ 12 ∧ Q (.fz (.tup [pS (l.take (1 + rootI l)), .int ((l.length / (1 + rootI l) : Nat) : Int)]))
theorem rootI_lt {l : List Nat} (h : 1 ≤ l.length) : rootI l < l.length := by
  have := List.mem_of_getElem? (rootI_get h)
  exact List.mem_range.mp (List.mem_filter.mp this).1
theorem le_root : ∀ qs Q E, wf_root qs Q E → wr_root qs Q E := by
  rintro qs Q E ⟨l, rfl, ha, h1, h2, q⟩
  simp [wDef, wSeq, wSet, wC, wKeep, keepA, wFor, wiRange1, wiRange2, wiRow, SyP.rowOf, wCons, wNil, wVar, look, wgN, wgTup, wgCons, wgNil, wAug, wAugAdd, wAugMul, wRet, wRetN, retA, wExpr, wIfS, wNext, wBreak, wCont, wOp, wII, wAdd, wSub, wMul, wMod, wDiv, wNeg, wEq, wIn, wIsN, wCmp, cmpI, cmpS, wChain, wB, wTru, truth, szOk, wAnd, wOr, wNot, wAndV, wOrV, wNotV, wIf, wTup, wLst, fzAll, fz1, wIx, wSl, wNo, wYes, SyP.part, wCB, wLen, lenP, wListOf, wTupOf, itemsP, wBools, wSum, wMax, wMin, wMinS, wM2, wInt, intOf, wIsi, isTy, wCall, wN, wM1, kAppend, kExtend, kPopAt, wPop, wAsg, wLc, wTrue, wTurn, wipeE, wLc2, wTurn2, wRaise, wSetIx, wStarts, wEnds, wStr2, wJoin, wSIndex, wLenSet, frzS, fl_int, fl_bl, fl_non, fl_str, eqp_int, eqp_str, lt_len, lt_app, lt_inj, cutS_lt, cutL_to, cutL_from, cutL_mid, rgI_length, Int.natCast_inj, sizeLine_eq, strOk_lt, wiEnum, wiZip, wiRev, wiRevR1, seqOf, wRevS, wRevT, wRevL, wListRg1, wIndexL, wSortedI, wSortedS, wSortedT, wTry, wSortedD, wMinD, wGcd, wMulS, wf__law_equal, wfEqual, wiRangeDown, and_assoc, wr_root, wb_root, wf_check_ring, wf_root_of]
  have h3 := rootI_lt h1
  have h4 : (l.take (1 + rootI l)).length = 1 + rootI l := by rw [List.length_take]; omega
  have h5 : min (1 + rootI l) l.length = 1 + rootI l := by omega
  rw [h5]
  refine ⟨ha, h1, h2, ha, h1, h2, by omega, by omega, ⟨by omega, by omega⟩, ?_⟩
  simpa using q
/-! ### the least turning -/
def leastB (l : List Nat) (k : Nat) : Bool := (List.range l.length).all fun j => !decide (rot l j < rot l k)
def leastI (l : List Nat) : Nat := ((List.range l.length).find? (leastB l)).getD 0
def tlP (l : List Nat) : List PV := (List.range l.length).map fun (k : Nat) => .tup [pS (rot l k), .int (k : Int)]
theorem low (f : Nat → List Nat) : ∀ n, 1 ≤ n → ∃ k, k < n ∧ ∀ j, j < n → ¬ f j < f k
  | 0, h => by omega
  | 1, _ => ⟨0, by omega, fun j hj => by have : j = 0 := by omega
                                         subst this
                                         exact List.lt_irrefl _⟩
  | n + 2, _ => by
    obtain ⟨k, hk, h⟩ := low f (n + 1) (by omega)
    by_cases c : f (n + 1) < f k
    · refine ⟨n + 1, by omega, fun j hj z => ?_⟩
      by_cases e : j = n + 1
      · subst e
        exact List.lt_irrefl _ z
      · exact h j (by omega) (List.lt_trans z c)
    · refine ⟨k, by omega, fun j hj z => ?_⟩
      by_cases e : j = n + 1
      · subst e
        exact c z
      · exact h j (by omega) z
theorem leastI_ok {l : List Nat} (h : 1 ≤ l.length) : leastI l < l.length ∧ (∀ j, j < l.length → ¬ rot l j < rot l (leastI l)) ∧ ∀ j, j < leastI l → rot l j ≠ rot l (leastI l) := by
  obtain ⟨k, hk, hl⟩ := low (rot l) l.length h
  have hB : leastB l k = true := by
    unfold leastB
    rw [List.all_eq_true]
    intro j hj
    simpa using hl j (List.mem_range.mp hj)
  cases hf : (List.range l.length).find? (leastB l) with
  | none =>
    have := List.find?_eq_none.mp hf k (List.mem_range.mpr hk)
    exact absurd hB this
  | some i =>
    have e : leastI l = i := by unfold leastI; rw [hf]; rfl
    rw [e]
    obtain ⟨h1, h2, h3⟩ := List.find?_range_eq_some.mp hf
    have h4 : ∀ j, j < l.length → ¬ rot l j < rot l i := fun j hj => by
      unfold leastB at h1
      have := List.all_eq_true.mp h1 j (List.mem_range.mpr hj)
      simpa using this
    refine ⟨List.mem_range.mp h2, h4, fun j hj e2 => ?_⟩
    have h5 := h3 j hj
    have h6 : leastB l j = true := by
      unfold leastB at h1 ⊢
      rw [e2]
      exact h1
    rw [h6] at h5
    cases h5
theorem dlt_int (i j : Int) : PySem.W.dataLt (.int i) (.int j) = decide (i < j) := by
  have := congrFun (congrFun (PySem.W.dataLe_int (β := Int) id) j) i
  rw [PySem.W.dataLe_eq] at this
  simp only [id] at this
  have e : (!PySem.W.dataLt (.int i) (.int j)) = decide (j ≤ i) := this
  rw [← Bool.not_not (PySem.W.dataLt _ _), e]
  by_cases c : i < j
  · rw [decide_eq_true c, decide_eq_false (by omega)]
    rfl
  · rw [decide_eq_false c, decide_eq_true (by omega)]
    rfl
theorem dlt_str (x y : List Nat) : PySem.W.dataLt (.str (lt x)) (.str (lt y)) = decide (x < y) := by
  have := congrFun (congrFun (PySem.W.dataLe_str (β := List Nat) lt) y) x
  rw [PySem.W.dataLe_eq] at this
  have e : (!PySem.W.dataLt (.str (lt x)) (.str (lt y))) = decide (y ≤ x) := this
  rw [← Bool.not_not (PySem.W.dataLt _ _), e]
  by_cases c : x < y
  · rw [decide_eq_true c, decide_eq_false (fun z => List.not_lt.mpr z c)]
    rfl
  · rw [decide_eq_false c, decide_eq_true (List.not_lt.mp c)]
    rfl
def tP1 (x : List Nat) (i : Nat) : PV := .tup [pS x, .int (i : Int)]
theorem dlt_tup (x y : List Nat) (i j : Nat) : PySem.W.dataLt (pd (tP1 x i)) (pd (tP1 y j)) = decide (x < y ∨ (x = y ∧ i < j)) := by
  have h := PySem.W.dataLt_pair (x := .str (lt x)) (y := .int i) (x' := .str (lt y)) (y' := .int j) rfl rfl
  have e1 : PyData.eqv (.str (lt x)) (.str (lt y)) = decide (x = y) := by
    have := eqp_str (lt x) (lt y)
    simp only [lt_inj] at this
    exact this
  have e2 : PyData.eqv (.int (i : Int)) (.int (j : Int)) = decide ((i : Int) = j) := eqp_int i j
  rw [e1, e2, dlt_int, dlt_str] at h
  refine Eq.trans h ?_
  by_cases c : x = y
  · subst c
    have := List.lt_irrefl x
    by_cases d : i = j
    · subst d
      simp [this]
    · simp [this, d]
      omega
  · simp [c]
theorem least_min {l : List Nat} (h : 1 ≤ l.length) {p : PV} (hp : p ∈ tlP l) (hm : pd p = minP (tlP l)) : p = .tup [pS (rot l (leastI l)), .int ((leastI l : Nat) : Int)] := by
  obtain ⟨h1, h2, h3⟩ := leastI_ok h
  have key : minP (tlP l) = pd (tP1 (rot l (leastI l)) (leastI l)) := by
    have hmem : tP1 (rot l (leastI l)) (leastI l) ∈ tlP l := List.mem_map.mpr ⟨_, List.mem_range.mpr h1, rfl⟩
    have hall : ∀ y ∈ (tlP l).map pd, y = pd (tP1 (rot l (leastI l)) (leastI l)) ∨ (PySem.W.dataLt (pd (tP1 (rot l (leastI l)) (leastI l))) y = true ∧ PySem.W.dataLt y (pd (tP1 (rot l (leastI l)) (leastI l))) = false) := fun y hy => by
      obtain ⟨q, hq, rfl⟩ := List.mem_map.mp hy
      obtain ⟨k, hk, rfl⟩ := List.mem_map.mp hq
      have hk := List.mem_range.mp hk
      by_cases e : k = leastI l
      · left
        rw [e]
        rfl
      · right
        have d1 := dlt_tup (rot l (leastI l)) (rot l k) (leastI l) k
        have d2 := dlt_tup (rot l k) (rot l (leastI l)) k (leastI l)
        refine ⟨Eq.trans d1 ?_, Eq.trans d2 ?_⟩
        · refine decide_eq_true ?_
          by_cases c : rot l (leastI l) < rot l k
          · exact .inl c
          · have e2 : rot l (leastI l) = rot l k := List.le_antisymm (List.not_lt.mp (h2 k hk)) (List.not_lt.mp c)
            refine .inr ⟨e2, ?_⟩
            rcases Nat.lt_trichotomy k (leastI l) with g | g | g
            · exact absurd e2.symm (h3 k g)
            · exact absurd g e
            · exact g
        · refine decide_eq_false ?_
          rintro (c | ⟨c, d⟩)
          · exact h2 k hk c
          · exact h3 k d c
    cases ht : tlP l with
    | nil =>
      rw [ht] at hmem
      cases hmem
    | cons x xs =>
      rw [ht] at hmem hall
      show PySem.W.minD (pd x) (xs.map pd) = _
      unfold PySem.W.minD
      refine fold_least PySem.W.dataLt _ (xs.map pd) (pd x) hall ?_
      rcases List.mem_cons.mp hmem with e | e
      · exact .inl (by rw [e])
      · exact .inr (List.mem_map_of_mem e)
  rw [key] at hm
  obtain ⟨k, hk, rfl⟩ := List.mem_map.mp hp
  have hk := List.mem_range.mp hk
  have e1 : PyData.tuple [.str (lt (rot l k)), .int (k : Int)] = PyData.tuple [.str (lt (rot l (leastI l))), .int ((leastI l : Nat) : Int)] := hm
  have e2 : (k : Int) = (leastI l : Nat) := by
    injection e1 with e1
    injection e1 with _ e1
    injection e1 with e1
    injection e1
  have e3 : k = leastI l := by omega
  rw [e3]
def wb_least_turned : WS :=
  (wRet (wCB wMinD (wCons (wLc (wiRange1 (wCons (wCB wLen (wCons (wVar 0) wNil)) wNil)) [1] (wgN 1) wTrue (wTup (wCons (wCall (wN 2 wf_turned) (wCons (wVar 0) (wCons (wVar 1) wNil))) (wCons (wVar 1) wNil)))) wNil)))
def wr_least_turned : WF := wDef 2 wb_least_turned

def wf_least_turned : WF := fun qs Q _ => ∃ (l : List Nat), qs = [pS l] ∧ ab l ∧ 1 ≤ l.length ∧ l.length ≤ 12 ∧ Q (.fz (.tup [pS (rot l (leastI l)), .int ((leastI l : Nat) : Int)]))
theorem le_least_turned : ∀ qs Q E, wf_least_turned qs Q E → wr_least_turned qs Q E := by
  rintro qs Q E ⟨l, rfl, ha, h1, h2, q⟩
  simp [wDef, wSeq, wSet, wC, wKeep, keepA, wFor, wiRange1, wiRange2, wiRow, SyP.rowOf, wCons, wNil, wVar, look, wgN, wgTup, wgCons, wgNil, wAug, wAugAdd, wAugMul, wRet, wRetN, retA, wExpr, wIfS, wNext, wBreak, wCont, wOp, wII, wAdd, wSub, wMul, wMod, wDiv, wNeg, wEq, wIn, wIsN, wCmp, cmpI, cmpS, wChain, wB, wTru, truth, szOk, wAnd, wOr, wNot, wAndV, wOrV, wNotV, wIf, wTup, wLst, fzAll, fz1, wIx, wSl, wNo, wYes, SyP.part, wCB, wLen, lenP, wListOf, wTupOf, itemsP, wBools, wSum, wMax, wMin, wMinS, wM2, wInt, intOf, wIsi, isTy, wCall, wN, wM1, kAppend, kExtend, kPopAt, wPop, wAsg, wLc, wTrue, wTurn, wipeE, wLc2, wTurn2, wRaise, wSetIx, wStarts, wEnds, wStr2, wJoin, wSIndex, wLenSet, frzS, fl_int, fl_bl, fl_non, fl_str, eqp_int, eqp_str, lt_len, lt_app, lt_inj, cutS_lt, cutL_to, cutL_from, cutL_mid, rgI_length, Int.natCast_inj, sizeLine_eq, strOk_lt, wiEnum, wiZip, wiRev, wiRevR1, seqOf, wRevS, wRevT, wRevL, wListRg1, wIndexL, wSortedI, wSortedS, wSortedT, wTry, wSortedD, wMinD, wGcd, wMulS, wf__law_equal, wfEqual, wiRangeDown, and_assoc, wr_least_turned, wb_least_turned]
  rw [show rgI 0 l.length = _ from rgI_nat 0 l.length]
  refine ⟨by omega, ⟨by omega, by omega⟩, by omega, wColl_fm (fun i : Nat => PV.int ((0 + i : Nat) : Int)) (fun k => [.tup [pS (rot l k), .int (k : Int)]]) (fun i hi Kk k => ?_) ?_⟩
  · simp [wDef, wSeq, wSet, wC, wKeep, keepA, wFor, wiRange1, wiRange2, wiRow, SyP.rowOf, wCons, wNil, wVar, look, wgN, wgTup, wgCons, wgNil, wAug, wAugAdd, wAugMul, wRet, wRetN, retA, wExpr, wIfS, wNext, wBreak, wCont, wOp, wII, wAdd, wSub, wMul, wMod, wDiv, wNeg, wEq, wIn, wIsN, wCmp, cmpI, cmpS, wChain, wB, wTru, truth, szOk, wAnd, wOr, wNot, wAndV, wOrV, wNotV, wIf, wTup, wLst, fzAll, fz1, wIx, wSl, wNo, wYes, SyP.part, wCB, wLen, lenP, wListOf, wTupOf, itemsP, wBools, wSum, wMax, wMin, wMinS, wM2, wInt, intOf, wIsi, isTy, wCall, wN, wM1, kAppend, kExtend, kPopAt, wPop, wAsg, wLc, wTrue, wTurn, wipeE, wLc2, wTurn2, wRaise, wSetIx, wStarts, wEnds, wStr2, wJoin, wSIndex, wLenSet, frzS, fl_int, fl_bl, fl_non, fl_str, eqp_int, eqp_str, lt_len, lt_app, lt_inj, cutS_lt, cutL_to, cutL_from, cutL_mid, rgI_length, Int.natCast_inj, sizeLine_eq, strOk_lt, wiEnum, wiZip, wiRev, wiRevR1, seqOf, wRevS, wRevT, wRevL, wListRg1, wIndexL, wSortedI, wSortedS, wSortedT, wTry, wSortedD, wMinD, wGcd, wMulS, wf__law_equal, wfEqual, wiRangeDown, and_assoc, wf_turned]
    exact ⟨by omega, k⟩
  · rw [flatMap_one, List.nil_append]
    simp [wDef, wSeq, wSet, wC, wKeep, keepA, wFor, wiRange1, wiRange2, wiRow, SyP.rowOf, wCons, wNil, wVar, look, wgN, wgTup, wgCons, wgNil, wAug, wAugAdd, wAugMul, wRet, wRetN, retA, wExpr, wIfS, wNext, wBreak, wCont, wOp, wII, wAdd, wSub, wMul, wMod, wDiv, wNeg, wEq, wIn, wIsN, wCmp, cmpI, cmpS, wChain, wB, wTru, truth, szOk, wAnd, wOr, wNot, wAndV, wOrV, wNotV, wIf, wTup, wLst, fzAll, fz1, wIx, wSl, wNo, wYes, SyP.part, wCB, wLen, lenP, wListOf, wTupOf, itemsP, wBools, wSum, wMax, wMin, wMinS, wM2, wInt, intOf, wIsi, isTy, wCall, wN, wM1, kAppend, kExtend, kPopAt, wPop, wAsg, wLc, wTrue, wTurn, wipeE, wLc2, wTurn2, wRaise, wSetIx, wStarts, wEnds, wStr2, wJoin, wSIndex, wLenSet, frzS, fl_int, fl_bl, fl_non, fl_str, eqp_int, eqp_str, lt_len, lt_app, lt_inj, cutS_lt, cutL_to, cutL_from, cutL_mid, rgI_length, Int.natCast_inj, sizeLine_eq, strOk_lt, wiEnum, wiZip, wiRev, wiRevR1, seqOf, wRevS, wRevT, wRevL, wListRg1, wIndexL, wSortedI, wSortedS, wSortedT, wTry, wSortedD, wMinD, wGcd, wMulS, wf__law_equal, wfEqual, wiRangeDown, and_assoc]
    refine ⟨fun e => ?_, fun k hk => ?_, ?_, fun k hk hm => ?_⟩
    · subst e
      simp at h1
    · intro y hy
      rcases List.mem_cons.mp hy with rfl | hy
      · rw [fl_str, strOk_lt]
        exact ab_ok (rot_ab ha k)
      · rw [List.mem_singleton.mp hy, fl_int]
        trivial
    · refine ⟨fun x hx y hy => ?_, fun x hx => ?_⟩
      · obtain ⟨k, _, rfl⟩ := List.mem_map.mp hx
        obtain ⟨j, _, rfl⟩ := List.mem_map.mp hy
        rfl
      · obtain ⟨k, _, rfl⟩ := List.mem_map.mp hx
        exact fun z => by cases z
    · rw [least_min h1 (List.mem_map.mpr ⟨k, List.mem_range.mpr hk, rfl⟩) hm]
      exact q
def wb_least_rotation : WS :=
  (wSeq (wExpr (wCall (wN 2 wf_check_ring) (wCons (wVar 0) (wCons (wC (.str "ring")) wNil))))
     (wRet (wCall (wN 1 wf_least_turned) (wCons (wVar 0) wNil))))
def wr_least_rotation : WF := wDef 1 wb_least_rotation

def wf_least_rotation : WF := fun qs Q _ => ∃ (l : List Nat), qs = [pS l] ∧ ab l ∧ 1 ≤ l.length ∧ l.length ≤ 12 ∧ Q (.fz (.tup [pS (rot l (leastI l)), .int ((leastI l : Nat) : Int)]))
theorem le_least_rotation : ∀ qs Q E, wf_least_rotation qs Q E → wr_least_rotation qs Q E := by
  rintro qs Q E ⟨l, rfl, ha, h1, h2, q⟩
  simp [wDef, wSeq, wSet, wC, wKeep, keepA, wFor, wiRange1, wiRange2, wiRow, SyP.rowOf, wCons, wNil, wVar, look, wgN, wgTup, wgCons, wgNil, wAug, wAugAdd, wAugMul, wRet, wRetN, retA, wExpr, wIfS, wNext, wBreak, wCont, wOp, wII, wAdd, wSub, wMul, wMod, wDiv, wNeg, wEq, wIn, wIsN, wCmp, cmpI, cmpS, wChain, wB, wTru, truth, szOk, wAnd, wOr, wNot, wAndV, wOrV, wNotV, wIf, wTup, wLst, fzAll, fz1, wIx, wSl, wNo, wYes, SyP.part, wCB, wLen, lenP, wListOf, wTupOf, itemsP, wBools, wSum, wMax, wMin, wMinS, wM2, wInt, intOf, wIsi, isTy, wCall, wN, wM1, kAppend, kExtend, kPopAt, wPop, wAsg, wLc, wTrue, wTurn, wipeE, wLc2, wTurn2, wRaise, wSetIx, wStarts, wEnds, wStr2, wJoin, wSIndex, wLenSet, frzS, fl_int, fl_bl, fl_non, fl_str, eqp_int, eqp_str, lt_len, lt_app, lt_inj, cutS_lt, cutL_to, cutL_from, cutL_mid, rgI_length, Int.natCast_inj, sizeLine_eq, strOk_lt, wiEnum, wiZip, wiRev, wiRevR1, seqOf, wRevS, wRevT, wRevL, wListRg1, wIndexL, wSortedI, wSortedS, wSortedT, wTry, wSortedD, wMinD, wGcd, wMulS, wf__law_equal, wfEqual, wiRangeDown, and_assoc, wr_least_rotation, wb_least_rotation, wf_check_ring, wf_least_turned]
  exact ⟨ha, h1, h2, ha, h1, h2, q⟩
def offI (l m : List Nat) : Option Nat := (List.range l.length).find? fun k => decide (rot l k = m)
def offP (l m : List Nat) : PV := match offI l m with
  | some k => .int (k : Int)
  | none => .non
theorem offI_at {l m : List Nat} {k : Nat} (hk : k < l.length) (h : rot l k = m) (hn : ∀ j, j < k → rot l j ≠ m) : offI l m = some k := by
  unfold offI
  refine List.find?_range_eq_some.mpr ⟨by simpa using h, List.mem_range.mpr hk, fun j hj => ?_⟩
  simpa using hn j hj
theorem offI_no {l m : List Nat} (h : ∀ j, j < l.length → rot l j ≠ m) : offI l m = none := by
  unfold offI
  refine List.find?_eq_none.mpr fun j hj => ?_
  simpa using h j (List.mem_range.mp hj)
def wb_offset : WS :=
  (wSeq (wExpr (wCall (wN 2 wf_check_ring) (wCons (wVar 0) (wCons (wC (.str "first")) wNil))))
     (wSeq (wExpr (wCall (wN 2 wf_check_ring) (wCons (wVar 1) (wCons (wC (.str "second")) wNil))))
     (wSeq (wFor (wiRange1 (wCons (wCB wLen (wCons (wVar 0) wNil)) wNil)) (wgN 2) (wIfS (wB (wOp (wEq false) (wCall (wN 2 wf_turned) (wCons (wVar 0) (wCons (wVar 2) wNil))) (wVar 1))) (wRet (wVar 2)) wNext))
     (wRet (wC .non)))))
def wr_offset : WF := wDef 3 wb_offset

def wf_offset : WF := fun qs Q _ => ∃ (l m : List Nat), qs = [pS l, pS m] ∧ (ab l ∧ ab m) ∧ (1 ≤ l.length ∧ l.length ≤ 12) ∧ (1 ≤ m.length ∧ m.length ≤ 12) ∧ Q (.fz (offP l m))
theorem le_offset : ∀ qs Q E, wf_offset qs Q E → wr_offset qs Q E := by
  rintro qs Q E ⟨l, m, rfl, ⟨ha, hb⟩, ⟨h1, h2⟩, ⟨h3, h4⟩, q⟩
  simp [wDef, wSeq, wSet, wC, wKeep, keepA, wFor, wiRange1, wiRange2, wiRow, SyP.rowOf, wCons, wNil, wVar, look, wgN, wgTup, wgCons, wgNil, wAug, wAugAdd, wAugMul, wRet, wRetN, retA, wExpr, wIfS, wNext, wBreak, wCont, wOp, wII, wAdd, wSub, wMul, wMod, wDiv, wNeg, wEq, wIn, wIsN, wCmp, cmpI, cmpS, wChain, wB, wTru, truth, szOk, wAnd, wOr, wNot, wAndV, wOrV, wNotV, wIf, wTup, wLst, fzAll, fz1, wIx, wSl, wNo, wYes, SyP.part, wCB, wLen, lenP, wListOf, wTupOf, itemsP, wBools, wSum, wMax, wMin, wMinS, wM2, wInt, intOf, wIsi, isTy, wCall, wN, wM1, kAppend, kExtend, kPopAt, wPop, wAsg, wLc, wTrue, wTurn, wipeE, wLc2, wTurn2, wRaise, wSetIx, wStarts, wEnds, wStr2, wJoin, wSIndex, wLenSet, frzS, fl_int, fl_bl, fl_non, fl_str, eqp_int, eqp_str, lt_len, lt_app, lt_inj, cutS_lt, cutL_to, cutL_from, cutL_mid, rgI_length, Int.natCast_inj, sizeLine_eq, strOk_lt, wiEnum, wiZip, wiRev, wiRevR1, seqOf, wRevS, wRevT, wRevL, wListRg1, wIndexL, wSortedI, wSortedS, wSortedT, wTry, wSortedD, wMinD, wGcd, wMulS, wf__law_equal, wfEqual, wiRangeDown, and_assoc, wr_offset, wb_offset, wf_check_ring]
  rw [show rgI 0 l.length = _ from rgI_nat 0 l.length]
  refine ⟨ha, h1, h2, hb, h3, h4, by omega, ⟨by omega, by omega⟩, wLoop_by (fun k ρ => ∃ x : Option AV, ρ = [some (.fz (pS l)), some (.fz (pS m)), x] ∧ ∀ j, j < k → rot l j ≠ m) ⟨none, rfl, fun j hj => by omega⟩ ?_ ?_⟩
  · rintro k x ρ N hx ⟨y, rfl, hn⟩ hN
    rw [List.getElem?_map] at hx
    cases hr : (List.range l.length)[k]? with
    | none => rw [hr] at hx; cases hx
    | some i =>
      rw [hr] at hx
      cases hx
      obtain ⟨hk, e⟩ := List.getElem?_eq_some_iff.mp hr
      rw [List.getElem_range] at e
      subst e
      rw [List.length_range] at hk
      simp [wDef, wSeq, wSet, wC, wKeep, keepA, wFor, wiRange1, wiRange2, wiRow, SyP.rowOf, wCons, wNil, wVar, look, wgN, wgTup, wgCons, wgNil, wAug, wAugAdd, wAugMul, wRet, wRetN, retA, wExpr, wIfS, wNext, wBreak, wCont, wOp, wII, wAdd, wSub, wMul, wMod, wDiv, wNeg, wEq, wIn, wIsN, wCmp, cmpI, cmpS, wChain, wB, wTru, truth, szOk, wAnd, wOr, wNot, wAndV, wOrV, wNotV, wIf, wTup, wLst, fzAll, fz1, wIx, wSl, wNo, wYes, SyP.part, wCB, wLen, lenP, wListOf, wTupOf, itemsP, wBools, wSum, wMax, wMin, wMinS, wM2, wInt, intOf, wIsi, isTy, wCall, wN, wM1, kAppend, kExtend, kPopAt, wPop, wAsg, wLc, wTrue, wTurn, wipeE, wLc2, wTurn2, wRaise, wSetIx, wStarts, wEnds, wStr2, wJoin, wSIndex, wLenSet, frzS, fl_int, fl_bl, fl_non, fl_str, eqp_int, eqp_str, lt_len, lt_app, lt_inj, cutS_lt, cutL_to, cutL_from, cutL_mid, rgI_length, Int.natCast_inj, sizeLine_eq, strOk_lt, wiEnum, wiZip, wiRev, wiRevR1, seqOf, wRevS, wRevT, wRevL, wListRg1, wIndexL, wSortedI, wSortedS, wSortedT, wTry, wSortedD, wMinD, wGcd, wMulS, wf__law_equal, wfEqual, wiRangeDown, and_assoc, wf_turned]
      refine ⟨by omega, ab_ok (rot_ab ha k), ab_ok hb, ?_⟩
      by_cases c : rot l k = m
      · rw [if_pos c]
        unfold offP at q
        rw [offI_at hk c hn] at q
        exact q
      · rw [if_neg c]
        refine hN _ ⟨_, rfl, fun j hj => ?_⟩
        by_cases e : j = k
        · rw [e]
          exact c
        · exact hn j (by omega)
  · rintro ρ ⟨y, rfl, hn⟩
    rw [List.length_map, List.length_range] at hn
    simp [wDef, wSeq, wSet, wC, wKeep, keepA, wFor, wiRange1, wiRange2, wiRow, SyP.rowOf, wCons, wNil, wVar, look, wgN, wgTup, wgCons, wgNil, wAug, wAugAdd, wAugMul, wRet, wRetN, retA, wExpr, wIfS, wNext, wBreak, wCont, wOp, wII, wAdd, wSub, wMul, wMod, wDiv, wNeg, wEq, wIn, wIsN, wCmp, cmpI, cmpS, wChain, wB, wTru, truth, szOk, wAnd, wOr, wNot, wAndV, wOrV, wNotV, wIf, wTup, wLst, fzAll, fz1, wIx, wSl, wNo, wYes, SyP.part, wCB, wLen, lenP, wListOf, wTupOf, itemsP, wBools, wSum, wMax, wMin, wMinS, wM2, wInt, intOf, wIsi, isTy, wCall, wN, wM1, kAppend, kExtend, kPopAt, wPop, wAsg, wLc, wTrue, wTurn, wipeE, wLc2, wTurn2, wRaise, wSetIx, wStarts, wEnds, wStr2, wJoin, wSIndex, wLenSet, frzS, fl_int, fl_bl, fl_non, fl_str, eqp_int, eqp_str, lt_len, lt_app, lt_inj, cutS_lt, cutL_to, cutL_from, cutL_mid, rgI_length, Int.natCast_inj, sizeLine_eq, strOk_lt, wiEnum, wiZip, wiRev, wiRevR1, seqOf, wRevS, wRevT, wRevL, wListRg1, wIndexL, wSortedI, wSortedS, wSortedT, wTry, wSortedD, wMinD, wGcd, wMulS, wf__law_equal, wfEqual, wiRangeDown, and_assoc]
    unfold offP at q
    rw [offI_no hn] at q
    exact q
def wb__law_string : WS :=
  (wSeq (wSet 4 (wOp wAdd (wVar 2) (wCall (wN 2 wf__law_next) (wCons (wVar 0) (wCons (wOp wAdd (wOp wSub (wVar 3) (wVar 2)) (wC (.int 1))) wNil)))))
     (wRet (wJoin (wC (.str "")) (wLc (wiRange1 (wCons (wVar 4) wNil)) [5] (wgN 5) wTrue (wOp wIx (wVar 1) (wCall (wN 2 wf__law_next) (wCons (wVar 0) (wCons (wCB wLen (wCons (wVar 1) wNil)) wNil))))))))
def wr__law_string : WF := wDef 6 wb__law_string

def wf__law_string : WF := fun qs Q _ => ∃ (al : List Nat) (lo hi : Int), qs = [.strm, pS al, .int lo, .int hi] ∧ ab al ∧ 1 ≤ al.length ∧ al.length ≤ 3 ∧ 0 ≤ lo ∧ lo ≤ hi ∧ hi ≤ 12 ∧ ∀ l, ab l → lo ≤ l.length → l.length ≤ hi → Q (.fz (pS l))
theorem le__law_string : ∀ qs Q E, wf__law_string qs Q E → wr__law_string qs Q E := by
  rintro qs Q E ⟨al, lo, hi, rfl, ha, h1, h2, h0, h3, h4, q⟩
  obtain ⟨lo, rfl⟩ := Int.eq_ofNat_of_zero_le h0
  obtain ⟨hi, rfl⟩ := Int.eq_ofNat_of_zero_le (Int.le_trans h0 h3)
  simp [wDef, wSeq, wSet, wC, wKeep, keepA, wFor, wiRange1, wiRange2, wiRow, SyP.rowOf, wCons, wNil, wVar, look, wgN, wgTup, wgCons, wgNil, wAug, wAugAdd, wAugMul, wRet, wRetN, retA, wExpr, wIfS, wNext, wBreak, wCont, wOp, wII, wAdd, wSub, wMul, wMod, wDiv, wNeg, wEq, wIn, wIsN, wCmp, cmpI, cmpS, wChain, wB, wTru, truth, szOk, wAnd, wOr, wNot, wAndV, wOrV, wNotV, wIf, wTup, wLst, fzAll, fz1, wIx, wSl, wNo, wYes, SyP.part, wCB, wLen, lenP, wListOf, wTupOf, itemsP, wBools, wSum, wMax, wMin, wMinS, wM2, wInt, intOf, wIsi, isTy, wCall, wN, wM1, kAppend, kExtend, kPopAt, wPop, wAsg, wLc, wTrue, wTurn, wipeE, wLc2, wTurn2, wRaise, wSetIx, wStarts, wEnds, wStr2, wJoin, wSIndex, wLenSet, frzS, fl_int, fl_bl, fl_non, fl_str, eqp_int, eqp_str, lt_len, lt_app, lt_inj, cutS_lt, cutL_to, cutL_from, cutL_mid, rgI_length, Int.natCast_inj, sizeLine_eq, strOk_lt, wiEnum, wiZip, wiRev, wiRevR1, seqOf, wRevS, wRevT, wRevL, wListRg1, wIndexL, wSortedI, wSortedS, wSortedT, wTry, wSortedD, wMinD, wGcd, wMulS, wf__law_equal, wfEqual, wiRangeDown, and_assoc, wr__law_string, wb__law_string, wf__law_next]
  refine ⟨by omega, by omega, fun d hd => ⟨⟨by omega, by omega⟩, by omega, ?_⟩⟩
  have e : ((lo : Int) + (d : Int)).toNat = lo + d := by omega
  rw [e]
  refine wColl_one (fun p => ∃ c, c ∈ al ∧ p = pS [c]) (fun x hx Kk k => ?_) fun ps hl hps => ?_
  · obtain ⟨i, _, rfl⟩ := List.mem_map.mp hx
    simp [wDef, wSeq, wSet, wC, wKeep, keepA, wFor, wiRange1, wiRange2, wiRow, SyP.rowOf, wCons, wNil, wVar, look, wgN, wgTup, wgCons, wgNil, wAug, wAugAdd, wAugMul, wRet, wRetN, retA, wExpr, wIfS, wNext, wBreak, wCont, wOp, wII, wAdd, wSub, wMul, wMod, wDiv, wNeg, wEq, wIn, wIsN, wCmp, cmpI, cmpS, wChain, wB, wTru, truth, szOk, wAnd, wOr, wNot, wAndV, wOrV, wNotV, wIf, wTup, wLst, fzAll, fz1, wIx, wSl, wNo, wYes, SyP.part, wCB, wLen, lenP, wListOf, wTupOf, itemsP, wBools, wSum, wMax, wMin, wMinS, wM2, wInt, intOf, wIsi, isTy, wCall, wN, wM1, kAppend, kExtend, kPopAt, wPop, wAsg, wLc, wTrue, wTurn, wipeE, wLc2, wTurn2, wRaise, wSetIx, wStarts, wEnds, wStr2, wJoin, wSIndex, wLenSet, frzS, fl_int, fl_bl, fl_non, fl_str, eqp_int, eqp_str, lt_len, lt_app, lt_inj, cutS_lt, cutL_to, cutL_from, cutL_mid, rgI_length, Int.natCast_inj, sizeLine_eq, strOk_lt, wiEnum, wiZip, wiRev, wiRevR1, seqOf, wRevS, wRevT, wRevL, wListRg1, wIndexL, wSortedI, wSortedS, wSortedT, wTry, wSortedD, wMinD, wGcd, wMulS, wf__law_equal, wfEqual, wiRangeDown, and_assoc, wf__law_next, lt_cps]
    refine ⟨by omega, by omega, by omega, fun j hj => ⟨by omega, al[j]'(by omega), ?_, k _ ⟨_, List.getElem_mem (by omega), rfl⟩⟩⟩
    exact atI_nat (List.getElem?_eq_getElem (by omega))
  · rw [rgI_length] at hl
    obtain ⟨cs, rfl, hcs⟩ := lift_map (fun c => pS [c]) (fun c => c ∈ al) ps hps
    rw [List.length_map] at hl
    refine ⟨cs.map fun c => lt [c], by rw [List.map_map]; rfl, ?_, ?_⟩
    · have e1 : (cs.map fun c => lt [c]).map (fun x => x.length) = cs.map fun _ => 1 := by rw [List.map_map]; rfl
      have e2 : (cs.map fun _ => 1).sum = cs.length := by rw [List.map_const', List.sum_replicate_nat, Nat.mul_one]
      rw [e1, e2, List.length_map]
      have e3 : (Str.ofString "").length = 0 := by decide +kernel
      rw [e3]
      omega
    · rw [join_lt]
      exact q cs (fun c hc => ha c (hcs c hc)) (by omega) (by omega)
def wb__law_turns : WS :=
  (wRet (wLc (wiRange1 (wCons (wCB wLen (wCons (wVar 0) wNil)) wNil)) [1] (wgN 1) wTrue (wOp wAdd (wSl (wVar 0) (wYes (wVar 1)) wNo) (wSl (wVar 0) wNo (wYes (wVar 1))))))
def wr__law_turns : WF := wDef 2 wb__law_turns

def wf__law_turns : WF := fun qs Q _ => ∃ l, qs = [pS l] ∧ l.length ≤ 12 ∧ Q (.ow (.lst ((List.range l.length).map fun k => pS (rot l k))))
theorem le__law_turns : ∀ qs Q E, wf__law_turns qs Q E → wr__law_turns qs Q E := by
  rintro qs Q E ⟨l, rfl, h1, q⟩
  simp [wDef, wSeq, wSet, wC, wKeep, keepA, wFor, wiRange1, wiRange2, wiRow, SyP.rowOf, wCons, wNil, wVar, look, wgN, wgTup, wgCons, wgNil, wAug, wAugAdd, wAugMul, wRet, wRetN, retA, wExpr, wIfS, wNext, wBreak, wCont, wOp, wII, wAdd, wSub, wMul, wMod, wDiv, wNeg, wEq, wIn, wIsN, wCmp, cmpI, cmpS, wChain, wB, wTru, truth, szOk, wAnd, wOr, wNot, wAndV, wOrV, wNotV, wIf, wTup, wLst, fzAll, fz1, wIx, wSl, wNo, wYes, SyP.part, wCB, wLen, lenP, wListOf, wTupOf, itemsP, wBools, wSum, wMax, wMin, wMinS, wM2, wInt, intOf, wIsi, isTy, wCall, wN, wM1, kAppend, kExtend, kPopAt, wPop, wAsg, wLc, wTrue, wTurn, wipeE, wLc2, wTurn2, wRaise, wSetIx, wStarts, wEnds, wStr2, wJoin, wSIndex, wLenSet, frzS, fl_int, fl_bl, fl_non, fl_str, eqp_int, eqp_str, lt_len, lt_app, lt_inj, cutS_lt, cutL_to, cutL_from, cutL_mid, rgI_length, Int.natCast_inj, sizeLine_eq, strOk_lt, wiEnum, wiZip, wiRev, wiRevR1, seqOf, wRevS, wRevT, wRevL, wListRg1, wIndexL, wSortedI, wSortedS, wSortedT, wTry, wSortedD, wMinD, wGcd, wMulS, wf__law_equal, wfEqual, wiRangeDown, and_assoc, wr__law_turns, wb__law_turns]
  rw [show rgI 0 l.length = _ from rgI_nat 0 l.length]
  refine ⟨by omega, ⟨by omega, by omega⟩, by omega, wColl_fm (fun i : Nat => PV.int ((0 + i : Nat) : Int)) (fun i => [pS (rot l i)]) (fun i hi Kk k => ?_) ?_⟩
  · rw [Nat.zero_add]
    simp [wDef, wSeq, wSet, wC, wKeep, keepA, wFor, wiRange1, wiRange2, wiRow, SyP.rowOf, wCons, wNil, wVar, look, wgN, wgTup, wgCons, wgNil, wAug, wAugAdd, wAugMul, wRet, wRetN, retA, wExpr, wIfS, wNext, wBreak, wCont, wOp, wII, wAdd, wSub, wMul, wMod, wDiv, wNeg, wEq, wIn, wIsN, wCmp, cmpI, cmpS, wChain, wB, wTru, truth, szOk, wAnd, wOr, wNot, wAndV, wOrV, wNotV, wIf, wTup, wLst, fzAll, fz1, wIx, wSl, wNo, wYes, SyP.part, wCB, wLen, lenP, wListOf, wTupOf, itemsP, wBools, wSum, wMax, wMin, wMinS, wM2, wInt, intOf, wIsi, isTy, wCall, wN, wM1, kAppend, kExtend, kPopAt, wPop, wAsg, wLc, wTrue, wTurn, wipeE, wLc2, wTurn2, wRaise, wSetIx, wStarts, wEnds, wStr2, wJoin, wSIndex, wLenSet, frzS, fl_int, fl_bl, fl_non, fl_str, eqp_int, eqp_str, lt_len, lt_app, lt_inj, cutS_lt, cutL_to, cutL_from, cutL_mid, rgI_length, Int.natCast_inj, sizeLine_eq, strOk_lt, wiEnum, wiZip, wiRev, wiRevR1, seqOf, wRevS, wRevT, wRevL, wListRg1, wIndexL, wSortedI, wSortedS, wSortedT, wTry, wSortedD, wMinD, wGcd, wMulS, wf__law_equal, wfEqual, wiRangeDown, and_assoc]
    exact ⟨by omega, by omega, k⟩
  · rw [flatMap_one, List.nil_append]
    exact q
/-! ### turnings of turnings -/
theorem rot_len (l : List Nat) (k : Nat) : (rot l k).length = l.length := by
  unfold rot
  rw [List.length_append, List.length_drop, List.length_take]
  omega
theorem rot_rot {l : List Nat} {k j : Nat} (hk : k ≤ l.length) (hj : j ≤ l.length) : rot (rot l k) j = if k + j ≤ l.length then rot l (k + j) else rot l (k + j - l.length) := by
  have hd : (l.drop k).length = l.length - k := List.length_drop
  split
  · rename_i h
    unfold rot
    rw [List.drop_append_of_le_length (by omega), List.take_append_of_le_length (by omega), List.drop_drop, List.append_assoc, ← List.take_add]
  · rename_i h
    unfold rot
    rw [List.drop_append, List.take_append, hd, List.drop_of_length_le (by omega), List.take_of_length_le (i := j) (by omega), List.nil_append]
    have e : j - (l.length - k) = k + j - l.length := by omega
    rw [e, ← List.append_assoc]
    have e2 : (l.take k).drop (k + j - l.length) ++ l.drop k = l.drop (k + j - l.length) := by
      have h3 := List.drop_append_of_le_length (l₁ := l.take k) (l₂ := l.drop k) (i := k + j - l.length) (by rw [List.length_take]; omega)
      rw [List.take_append_drop] at h3
      exact h3.symm
    have e3 : (l.take k).take (k + j - l.length) = l.take (k + j - l.length) := by rw [List.take_take]; congr 1; omega
    rw [e2, e3]
theorem rot_0 (l : List Nat) : rot l 0 = l := by unfold rot; simp
theorem rot_n (l : List Nat) : rot l l.length = l := by unfold rot; simp
/-- a turning of a turning is a turning -/
theorem rot_in {l : List Nat} {k j : Nat} (hk : k < l.length) (hj : j < l.length) : ∃ i, i < l.length ∧ rot (rot l k) j = rot l i := by
  rw [rot_rot (by omega) (by omega)]
  split
  · by_cases e : k + j = l.length
    · exact ⟨0, by omega, by rw [e, rot_n, rot_0]⟩
    · exact ⟨k + j, by omega, rfl⟩
  · exact ⟨k + j - l.length, by omega, rfl⟩
theorem rot_back {l : List Nat} {k : Nat} (hk : k < l.length) : ∃ i, i < l.length ∧ rot (rot l k) i = l := by
  by_cases e : k = 0
  · exact ⟨0, by omega, by rw [e, rot_0, rot_0]⟩
  · refine ⟨l.length - k, by omega, ?_⟩
    rw [rot_rot (by omega) (by omega), if_pos (by omega), show k + (l.length - k) = l.length by omega, rot_n]
theorem least_same {l m : List Nat} (hl : 1 ≤ l.length) (hm : 1 ≤ m.length) : rot l (leastI l) = rot m (leastI m) ↔ ∃ k, k < l.length ∧ rot l k = m := by
  obtain ⟨a1, a2, _⟩ := leastI_ok hl
  obtain ⟨b1, b2, _⟩ := leastI_ok hm
  constructor
  · intro e
    obtain ⟨i, hi, ei⟩ := rot_back b1
    have hlen : l.length = m.length := by
      have := congrArg List.length e
      rwa [rot_len, rot_len] at this
    rw [← e] at ei
    obtain ⟨j, hj, ej⟩ := rot_in (j := i) a1 (by omega)
    exact ⟨j, hj, ej.symm.trans ei⟩
  · rintro ⟨k, hk, rfl⟩
    rw [rot_len] at b1 b2
    obtain ⟨i, hi, ei⟩ := rot_in (j := leastI (rot l k)) hk b1
    have h1 := a2 i hi
    rw [← ei] at h1
    obtain ⟨i2, hi2, ei2⟩ := rot_back hk
    have hlk : (rot l k).length = l.length := rot_len l k
    obtain ⟨i3, hi3, ei3⟩ := rot_in (l := rot l k) (k := i2) (j := leastI l) (by omega) (by omega)
    rw [ei2] at ei3
    have h2 := b2 i3 (by omega)
    rw [← ei3] at h2
    exact List.le_antisymm (List.not_lt.mp h1) (List.not_lt.mp h2)
def powP (l : List Nat) (t : Nat) : List PV := (List.range t).flatMap fun i => ((List.range l.length).filter fun j => powB l (1 + i) (1 + j)).map fun j => .tup [pS (l.take (1 + i)), .int ((1 + j : Nat) : Int)]
theorem powP_succ (l : List Nat) (t : Nat) : powP l (t + 1) = powP l t ++ ((List.range l.length).filter fun j => powB l (1 + t) (1 + j)).map fun j => .tup [pS (l.take (1 + t)), .int ((1 + j : Nat) : Int)] := by
  unfold powP
  rw [List.range_succ, List.flatMap_append]
  simp
theorem powP_len (l : List Nat) : ∀ t, (powP l t).length ≤ t * l.length
  | 0 => by unfold powP; simp
  | t + 1 => by
    rw [powP_succ, List.length_append, List.length_map, Nat.succ_mul]
    have h1 := powP_len l t
    have h2 := List.length_filter_le (fun j => powB l (1 + t) (1 + j)) (List.range l.length)
    rw [List.length_range] at h2
    omega
theorem flatMap_congr' {α β : Type} {f g : α → List β} : ∀ {l : List α}, (∀ x ∈ l, f x = g x) → l.flatMap f = l.flatMap g
  | [], _ => rfl
  | x :: xs, h => by
    rw [List.flatMap_cons, List.flatMap_cons, h x List.mem_cons_self, flatMap_congr' fun y hy => h y (List.mem_cons_of_mem _ hy)]
theorem powB_len {l : List Nat} {s m : Nat} (hs : s ≤ l.length) (h : powB l s m = true) : m * s = l.length := by
  unfold powB at h
  have h := congrArg List.length (of_decide_eq_true h)
  rw [List.length_flatten, List.map_replicate, List.sum_replicate_nat, List.length_take, Nat.min_eq_left hs] at h
  exact h
theorem pow_row {l : List Nat} {i : Nat} (hi : i < l.length) : ((List.range l.length).filter fun j => powB l (1 + i) (1 + j)).map (fun j => PV.tup [pS (l.take (1 + i)), .int ((1 + j : Nat) : Int)]) = if good l (1 + i) = true then [PV.tup [pS (l.take (1 + i)), .int ((l.length : Int) / (1 + (i : Int)))]] else [] := by
  have hdiv : ∀ j, powB l (1 + i) (1 + j) = true → (1 + j) * (1 + i) = l.length := fun j h => powB_len (by omega) h
  by_cases hm : l.length % (1 + i) = 0
  · have h1 : l.length / (1 + i) * (1 + i) = l.length := Nat.div_mul_cancel (Nat.dvd_of_mod_eq_zero hm)
    have h2 : 1 ≤ l.length / (1 + i) := Nat.div_pos (by omega) (by omega)
    have h3 : l.length / (1 + i) ≤ l.length := Nat.div_le_self _ _
    have e1 : 1 + (l.length / (1 + i) - 1) = l.length / (1 + i) := by omega
    rw [filter_one (j := l.length / (1 + i) - 1) _ (by omega) fun j hj h => by
      have h4 := hdiv j h
      have h5 : 1 + j = l.length / (1 + i) := (Nat.div_eq_of_eq_mul_left (by omega) h4.symm).symm
      omega]
    unfold good
    rw [e1, decide_eq_true hm, Bool.and_true]
    split
    · rw [List.map_cons, List.map_nil, e1, ediv_1]
    · rfl
  · have h1 : ((List.range l.length).filter fun j => powB l (1 + i) (1 + j)) = [] := List.filter_eq_nil_iff.mpr fun j hj h => hm (by
      rw [← hdiv j h]
      exact Nat.mul_mod_left _ _)
    rw [h1]
    unfold good
    rw [decide_eq_false hm, Bool.and_false]
    rfl
theorem pow_first {l : List Nat} (h : 1 ≤ l.length) : atI (powP l l.length) 0 = some (.tup [pS (l.take (1 + rootI l)), .int ((l.length : Int) / (1 + (rootI l : Int)))]) := by
  have e : powP l l.length = ((List.range l.length).filter fun i => good l (1 + i)).map fun i => PV.tup [pS (l.take (1 + i)), .int ((l.length : Int) / (1 + (i : Int)))] := by
    unfold powP
    rw [← flatMap_if]
    exact flatMap_congr' fun i hi => pow_row (List.mem_range.mp hi)
  rw [e, show (0 : Int) = ((0 : Nat) : Int) from rfl]
  refine atI_nat ?_
  rw [List.getElem?_map, rootI_get h]
  rfl
theorem letters : ∀ d : Nat, (d : Int) < 4 → ∃ al, atI [PV.str "a", .str "ab", .str "ab", .str "abc"] (d : Int) = some (pS al) ∧ ab al ∧ 1 ≤ al.length ∧ al.length ≤ 3 := fun d hd => by
  have hd : d < 4 := by omega
  rw [s_a, s_ab, s_abc]
  match d, hd with
  | 0, _ => exact ⟨[97], rfl, by intro c hc; simp at hc; omega, by decide, by decide⟩
  | 1, _ => exact ⟨[97, 98], rfl, by intro c hc; simp at hc; omega, by decide, by decide⟩
  | 2, _ => exact ⟨[97, 98], rfl, by intro c hc; simp at hc; omega, by decide, by decide⟩
  | 3, _ => exact ⟨[97, 98, 99], rfl, by intro c hc; simp at hc; omega, by decide, by decide⟩
def wb_law : WS :=
  (wSeq (wSet 2 (wOp wIx (wLst (wCons (wC (.str "a")) (wCons (wC (.str "ab")) (wCons (wC (.str "ab")) (wCons (wC (.str "abc")) wNil))))) (wCall (wN 2 wf__law_next) (wCons (wVar 1) (wCons (wC (.int 4)) wNil)))))
     (wSeq (wSet 3 (wCall (wN 4 wf__law_string) (wCons (wVar 1) (wCons (wVar 2) (wCons (wC (.int 1)) (wCons (wC (.int 4)) wNil))))))
     (wSeq (wSet 4 (wLst (wCons (wCall (wN 4 wf__law_string) (wCons (wVar 1) (wCons (wVar 2) (wCons (wC (.int 1)) (wCons (wC (.int 12)) wNil))))) (wCons (wOp wMulS (wVar 3) (wOp wAdd (wC (.int 1)) (wCall (wN 2 wf__law_next) (wCons (wVar 1) (wCons (wC (.int 3)) wNil))))) (wCons (wOp wMulS (wRevS (wVar 3)) (wOp wAdd (wC (.int 1)) (wCall (wN 2 wf__law_next) (wCons (wVar 1) (wCons (wC (.int 3)) wNil))))) wNil)))))
     (wSeq (wSet 5 (wOp wAdd (wSl (wOp wIx (wVar 4) (wC (.int 1))) (wYes (wC (.int 1))) wNo) (wSl (wOp wIx (wVar 4) (wC (.int 1))) wNo (wYes (wC (.int 1))))))
     (wSeq (wSet 4 (wOp wAdd (wVar 4) (wLst (wCons (wVar 5) (wCons (wRevS (wVar 5)) wNil)))))
     (wSeq (wFor (wiRow (wVar 4)) (wgN 6) (wSeq (wSet 7 (wLst wNil))
       (wSeq (wFor (wiRange2 (wCons (wC (.int 1)) (wCons (wOp wAdd (wCB wLen (wCons (wVar 6) wNil)) (wC (.int 1))) wNil))) (wgN 8) (wSet 7 (wOp wAdd (wVar 7) (wLc (wiRange2 (wCons (wC (.int 1)) (wCons (wOp wAdd (wCB wLen (wCons (wVar 6) wNil)) (wC (.int 1))) wNil))) [9] (wgN 9) (wB (wOp (wEq false) (wOp wMulS (wSl (wVar 6) wNo (wYes (wVar 8))) (wVar 9)) (wVar 6))) (wTup (wCons (wSl (wVar 6) wNo (wYes (wVar 8))) (wCons (wVar 9) wNil)))))))
       (wSeq (wSet 10 (wCall (wN 1 wf__law_turns) (wCons (wVar 6) wNil)))
       (wSeq (wSet 11 (wCB wMinS (wCons (wVar 10) wNil)))
       (wSeq (wIfS (wNot (wTru (wCall (wN 2 wf__law_equal) (wCons (wLst (wCons (wCall (wN 1 wf_root) (wCons (wVar 6) wNil)) (wCons (wCall (wN 1 wf_least_rotation) (wCons (wVar 6) wNil)) wNil))) (wCons (wLst (wCons (wOp wIx (wVar 7) (wC (.int 0))) (wCons (wTup (wCons (wVar 11) (wCons (wIndexL (wVar 10) (wVar 11)) wNil))) wNil))) wNil))))) (wRet (wC (.bl false))) wNext)
       (wFor (wiRow (wVar 4)) (wgN 12) (wSeq (wSet 13 (wC .non))
         (wSeq (wIfS (wB (wOp (wIn false) (wVar 12) (wVar 10))) (wSet 13 (wIndexL (wVar 10) (wVar 12))) wNext)
         (wSeq (wIfS (wNot (wTru (wCall (wN 2 wf__law_equal) (wCons (wCall (wN 2 wf_offset) (wCons (wVar 6) (wCons (wVar 12) wNil))) (wCons (wVar 13) wNil))))) (wRet (wC (.bl false))) wNext)
         (wIfS (wB (wOp (wEq true) (wOp (wEq false) (wOp wIx (wCall (wN 1 wf_least_rotation) (wCons (wVar 6) wNil)) (wC (.int 0))) (wOp wIx (wCall (wN 1 wf_least_rotation) (wCons (wVar 12) wNil)) (wC (.int 0)))) (wOp (wIsN true) (wVar 13) (wC .non)))) (wRet (wC (.bl false))) wNext)))))))))))
     (wRet (wC (.bl true)))))))))

theorem law_hw : LawOk 14 wb_law := by
  simp [wDef, wSeq, wSet, wC, wKeep, keepA, wFor, wiRange1, wiRange2, wiRow, SyP.rowOf, wCons, wNil, wVar, look, wgN, wgTup, wgCons, wgNil, wAug, wAugAdd, wAugMul, wRet, wRetN, retA, wExpr, wIfS, wNext, wBreak, wCont, wOp, wII, wAdd, wSub, wMul, wMod, wDiv, wNeg, wEq, wIn, wIsN, wCmp, cmpI, cmpS, wChain, wB, wTru, truth, szOk, wAnd, wOr, wNot, wAndV, wOrV, wNotV, wIf, wTup, wLst, fzAll, fz1, wIx, wSl, wNo, wYes, SyP.part, wCB, wLen, lenP, wListOf, wTupOf, itemsP, wBools, wSum, wMax, wMin, wMinS, wM2, wInt, intOf, wIsi, isTy, wCall, wN, wM1, kAppend, kExtend, kPopAt, wPop, wAsg, wLc, wTrue, wTurn, wipeE, wLc2, wTurn2, wRaise, wSetIx, wStarts, wEnds, wStr2, wJoin, wSIndex, wLenSet, frzS, fl_int, fl_bl, fl_non, fl_str, eqp_int, eqp_str, lt_len, lt_app, lt_inj, cutS_lt, cutL_to, cutL_from, cutL_mid, rgI_length, Int.natCast_inj, sizeLine_eq, strOk_lt, wiEnum, wiZip, wiRev, wiRevR1, seqOf, wRevS, wRevT, wRevL, wListRg1, wIndexL, wSortedI, wSortedS, wSortedT, wTry, wSortedD, wMinD, wGcd, wMulS, wf__law_equal, wfEqual, wiRangeDown, and_assoc, LawOk, wb_law, wf__law_next, wf__law_string]
  intro d hd
  obtain ⟨al, e, ha, g1, g2⟩ := letters d hd
  refine ⟨_, e, al, rfl, ha, g1, g2, fun s hs s1 s2 => ⟨al, rfl, ha, g1, g2, fun r0 hr0 a1 a2 d1 hd1 => ?_⟩⟩
  refine ⟨1 + d1, by omega, by omega, by omega, by omega, fun d2 hd2 => ⟨1 + d2, by omega, by omega, by omega, _, rfl, ?_⟩⟩
  have hr1 : ab (List.replicate (1 + d1) s).flatten := fun c hc => by
    obtain ⟨m, hm, hc⟩ := List.mem_flatten.mp hc
    rw [List.eq_of_mem_replicate hm] at hc
    exact hs c hc
  have hr2 : ab (List.replicate (1 + d2) s.reverse).flatten := fun c hc => by
    obtain ⟨m, hm, hc⟩ := List.mem_flatten.mp hc
    rw [List.eq_of_mem_replicate hm] at hc
    exact hs c (List.mem_reverse.mp hc)
  have l1 : (List.replicate (1 + d1) s).flatten.length = (1 + d1) * s.length := by simp
  have l2 : (List.replicate (1 + d2) s.reverse).flatten.length = (1 + d2) * s.length := by simp
  have b1 : 1 ≤ (1 + d1) * s.length ∧ (1 + d1) * s.length ≤ 12 := ⟨Nat.mul_pos (by omega) (by omega), Nat.le_trans (Nat.mul_le_mul (show 1 + d1 ≤ 3 by omega) (show s.length ≤ 4 by omega)) (by decide)⟩
  have b2 : 1 ≤ (1 + d2) * s.length ∧ (1 + d2) * s.length ≤ 12 := ⟨Nat.mul_pos (by omega) (by omega), Nat.le_trans (Nat.mul_le_mul (show 1 + d2 ≤ 3 by omega) (show s.length ≤ 4 by omega)) (by decide)⟩
  rw [← l1] at b1
  rw [← l2] at b2
  revert b1 b2 hr1 hr2
  generalize (List.replicate (1 + d1) s).flatten = r1
  generalize (List.replicate (1 + d2) s.reverse).flatten = r2
  intro hr1 hr2 b1 b2
  refine ⟨by rw [lt_len]; omega, _, rfl, by rw [lt_len]; omega, ?_⟩
  rw [cutS_lt, cutS_lt, cutL_from_one, cutL_to_one, lt_app, lt_len, lt_len]
  refine ⟨by rw [List.length_drop, List.length_take]; omega, r1.drop 1 ++ r1.take 1, rfl, by rw [List.length_append, List.length_drop, List.length_take]; omega, ?_⟩
  have hrs : ∀ r ∈ [r0, r1, r2, rot r1 1, (rot r1 1).reverse], ab r ∧ 1 ≤ r.length ∧ r.length ≤ 12 := fun r hr => by
    simp only [List.mem_cons, List.not_mem_nil, or_false] at hr
    rcases hr with rfl | rfl | rfl | rfl | rfl
    · exact ⟨hr0, by omega, by omega⟩
    · exact ⟨hr1, by omega, by omega⟩
    · exact ⟨hr2, by omega, by omega⟩
    · exact ⟨rot_ab hr1 1, by rw [rot_len]; omega, by rw [rot_len]; omega⟩
    · exact ⟨fun c hc => rot_ab hr1 1 c (List.mem_reverse.mp hc), by rw [List.length_reverse, rot_len]; omega, by rw [List.length_reverse, rot_len]; omega⟩
  have hlen : [r0, r1, r2, rot r1 1, (rot r1 1).reverse].length = 5 := rfl
  show wLoop _ _ _ ([r0, r1, r2, rot r1 1, (rot r1 1).reverse].map pS) [none, some (.fz .strm), some (.fz (pS al)), some (.fz (pS s)), some (.fz (.lst ([r0, r1, r2, rot r1 1, (rot r1 1).reverse].map pS))), some (.fz (pS (rot r1 1))), none, none, none, none, none, none, none, none]
  revert hrs hlen
  generalize [r0, r1, r2, rot r1 1, (rot r1 1).reverse] = RS
  intro hrs hlen
  refine wLoop_by (fun k ρ => ∃ x6 x7 x8 x10 x11 x12 x13 : Option AV, ρ = [none, some (.fz .strm), some (.fz (pS al)), some (.fz (pS s)), some (.fz (.lst (RS.map pS))), some (.fz (pS (rot r1 1))), x6, x7, x8, none, x10, x11, x12, x13]) ⟨none, none, none, none, none, none, none, rfl⟩ ?_ ?_
  · rintro k x ρ N hx ⟨x6, x7, x8, x10, x11, x12, x13, rfl⟩ hN
    rw [List.getElem?_map] at hx
    cases hr : RS[k]? with
    | none => rw [hr] at hx; cases hx
    | some l =>
      rw [hr] at hx
      cases hx
      obtain ⟨hl, n1, n2⟩ := hrs l (List.mem_of_getElem? hr)
      simp [wDef, wSeq, wSet, wC, wKeep, keepA, wFor, wiRange1, wiRange2, wiRow, SyP.rowOf, wCons, wNil, wVar, look, wgN, wgTup, wgCons, wgNil, wAug, wAugAdd, wAugMul, wRet, wRetN, retA, wExpr, wIfS, wNext, wBreak, wCont, wOp, wII, wAdd, wSub, wMul, wMod, wDiv, wNeg, wEq, wIn, wIsN, wCmp, cmpI, cmpS, wChain, wB, wTru, truth, szOk, wAnd, wOr, wNot, wAndV, wOrV, wNotV, wIf, wTup, wLst, fzAll, fz1, wIx, wSl, wNo, wYes, SyP.part, wCB, wLen, lenP, wListOf, wTupOf, itemsP, wBools, wSum, wMax, wMin, wMinS, wM2, wInt, intOf, wIsi, isTy, wCall, wN, wM1, kAppend, kExtend, kPopAt, wPop, wAsg, wLc, wTrue, wTurn, wipeE, wLc2, wTurn2, wRaise, wSetIx, wStarts, wEnds, wStr2, wJoin, wSIndex, wLenSet, frzS, fl_int, fl_bl, fl_non, fl_str, eqp_int, eqp_str, lt_len, lt_app, lt_inj, cutS_lt, cutL_to, cutL_from, cutL_mid, rgI_length, Int.natCast_inj, sizeLine_eq, strOk_lt, wiEnum, wiZip, wiRev, wiRevR1, seqOf, wRevS, wRevT, wRevL, wListRg1, wIndexL, wSortedI, wSortedS, wSortedT, wTry, wSortedD, wMinD, wGcd, wMulS, wf__law_equal, wfEqual, wiRangeDown, and_assoc]
      rw [show rgI 1 l.length = _ from rgI_nat 1 l.length]
      refine ⟨by omega, ⟨by omega, by omega⟩, ⟨by omega, by omega⟩, wLoop_by (fun t ρ => ∃ x8 : Option AV, t ≤ l.length ∧ ρ = [none, some (.fz .strm), some (.fz (pS al)), some (.fz (pS s)), some (.fz (.lst (RS.map pS))), some (.fz (pS (rot r1 1))), some (.fz (pS l)), some (.ow (.lst (powP l t))), x8, none, x10, x11, x12, x13]) ⟨x8, by omega, rfl⟩ ?_ ?_⟩
      · rintro t y ρ N2 hy ⟨x8, ht, rfl⟩ hN2
        rw [List.getElem?_map] at hy
        cases hr2 : (List.range l.length)[t]? with
        | none => rw [hr2] at hy; cases hy
        | some i =>
          rw [hr2] at hy
          cases hy
          obtain ⟨htl, e⟩ := List.getElem?_eq_some_iff.mp hr2
          rw [List.getElem_range] at e
          subst e
          rw [List.length_range] at htl
          simp [wDef, wSeq, wSet, wC, wKeep, keepA, wFor, wiRange1, wiRange2, wiRow, SyP.rowOf, wCons, wNil, wVar, look, wgN, wgTup, wgCons, wgNil, wAug, wAugAdd, wAugMul, wRet, wRetN, retA, wExpr, wIfS, wNext, wBreak, wCont, wOp, wII, wAdd, wSub, wMul, wMod, wDiv, wNeg, wEq, wIn, wIsN, wCmp, cmpI, cmpS, wChain, wB, wTru, truth, szOk, wAnd, wOr, wNot, wAndV, wOrV, wNotV, wIf, wTup, wLst, fzAll, fz1, wIx, wSl, wNo, wYes, SyP.part, wCB, wLen, lenP, wListOf, wTupOf, itemsP, wBools, wSum, wMax, wMin, wMinS, wM2, wInt, intOf, wIsi, isTy, wCall, wN, wM1, kAppend, kExtend, kPopAt, wPop, wAsg, wLc, wTrue, wTurn, wipeE, wLc2, wTurn2, wRaise, wSetIx, wStarts, wEnds, wStr2, wJoin, wSIndex, wLenSet, frzS, fl_int, fl_bl, fl_non, fl_str, eqp_int, eqp_str, lt_len, lt_app, lt_inj, cutS_lt, cutL_to, cutL_from, cutL_mid, rgI_length, Int.natCast_inj, sizeLine_eq, strOk_lt, wiEnum, wiZip, wiRev, wiRevR1, seqOf, wRevS, wRevT, wRevL, wListRg1, wIndexL, wSortedI, wSortedS, wSortedT, wTry, wSortedD, wMinD, wGcd, wMulS, wf__law_equal, wfEqual, wiRangeDown, and_assoc]
          rw [show rgI 1 l.length = _ from rgI_nat 1 l.length]
          refine ⟨by omega, ⟨by omega, by omega⟩, ⟨by omega, by omega⟩, by omega, wColl_fm (fun j : Nat => PV.int ((1 + j : Nat) : Int)) (fun j => if powB l (1 + t) (1 + j) = true then [.tup [pS (l.take (1 + t)), .int ((1 + j : Nat) : Int)]] else []) (fun j hj Kk k2 => ?_) ?_⟩
          · have hj := List.mem_range.mp hj
            simp [wDef, wSeq, wSet, wC, wKeep, keepA, wFor, wiRange1, wiRange2, wiRow, SyP.rowOf, wCons, wNil, wVar, look, wgN, wgTup, wgCons, wgNil, wAug, wAugAdd, wAugMul, wRet, wRetN, retA, wExpr, wIfS, wNext, wBreak, wCont, wOp, wII, wAdd, wSub, wMul, wMod, wDiv, wNeg, wEq, wIn, wIsN, wCmp, cmpI, cmpS, wChain, wB, wTru, truth, szOk, wAnd, wOr, wNot, wAndV, wOrV, wNotV, wIf, wTup, wLst, fzAll, fz1, wIx, wSl, wNo, wYes, SyP.part, wCB, wLen, lenP, wListOf, wTupOf, itemsP, wBools, wSum, wMax, wMin, wMinS, wM2, wInt, intOf, wIsi, isTy, wCall, wN, wM1, kAppend, kExtend, kPopAt, wPop, wAsg, wLc, wTrue, wTurn, wipeE, wLc2, wTurn2, wRaise, wSetIx, wStarts, wEnds, wStr2, wJoin, wSIndex, wLenSet, frzS, fl_int, fl_bl, fl_non, fl_str, eqp_int, eqp_str, lt_len, lt_app, lt_inj, cutS_lt, cutL_to, cutL_from, cutL_mid, rgI_length, Int.natCast_inj, sizeLine_eq, strOk_lt, wiEnum, wiZip, wiRev, wiRevR1, seqOf, wRevS, wRevT, wRevL, wListRg1, wIndexL, wSortedI, wSortedS, wSortedT, wTry, wSortedD, wMinD, wGcd, wMulS, wf__law_equal, wfEqual, wiRangeDown, and_assoc, cutL_to1, List.length_take]
            have hx : ab (List.replicate (1 + j) (l.take (1 + t))).flatten := fun c hc => by
              obtain ⟨m, hm, hc⟩ := List.mem_flatten.mp hc
              rw [List.eq_of_mem_replicate hm] at hc
              exact hl c (List.mem_of_mem_take hc)
            refine ⟨by omega, 1 + j, by omega, by omega, by omega, ab_ok hx, ab_ok hl, ?_⟩
            unfold powB at k2
            by_cases c : (List.replicate (1 + j) (l.take (1 + t))).flatten = l
            · simp [c] at k2 ⊢
              exact ⟨by omega, k2⟩
            · simp [c] at k2 ⊢
              exact k2
          · rw [flatMap_if, List.nil_append]
            have h5 := powP_len l t
            have h6 := Nat.mul_le_mul (show t ≤ 12 by omega) n2
            have h7 := List.length_filter_le (fun j => powB l (1 + t) (1 + j)) (List.range l.length)
            rw [List.length_range] at h7
            refine ⟨by rw [List.length_map]; omega, hN2 _ ⟨_, by omega, by rw [powP_succ]⟩⟩
      · rintro ρ ⟨x8, ht, rfl⟩
        rw [List.length_map, List.length_range]
        simp [wDef, wSeq, wSet, wC, wKeep, keepA, wFor, wiRange1, wiRange2, wiRow, SyP.rowOf, wCons, wNil, wVar, look, wgN, wgTup, wgCons, wgNil, wAug, wAugAdd, wAugMul, wRet, wRetN, retA, wExpr, wIfS, wNext, wBreak, wCont, wOp, wII, wAdd, wSub, wMul, wMod, wDiv, wNeg, wEq, wIn, wIsN, wCmp, cmpI, cmpS, wChain, wB, wTru, truth, szOk, wAnd, wOr, wNot, wAndV, wOrV, wNotV, wIf, wTup, wLst, fzAll, fz1, wIx, wSl, wNo, wYes, SyP.part, wCB, wLen, lenP, wListOf, wTupOf, itemsP, wBools, wSum, wMax, wMin, wMinS, wM2, wInt, intOf, wIsi, isTy, wCall, wN, wM1, kAppend, kExtend, kPopAt, wPop, wAsg, wLc, wTrue, wTurn, wipeE, wLc2, wTurn2, wRaise, wSetIx, wStarts, wEnds, wStr2, wJoin, wSIndex, wLenSet, frzS, fl_int, fl_bl, fl_non, fl_str, eqp_int, eqp_str, lt_len, lt_app, lt_inj, cutS_lt, cutL_to, cutL_from, cutL_mid, rgI_length, Int.natCast_inj, sizeLine_eq, strOk_lt, wiEnum, wiZip, wiRev, wiRevR1, seqOf, wRevS, wRevT, wRevL, wListRg1, wIndexL, wSortedI, wSortedS, wSortedT, wTry, wSortedD, wMinD, wGcd, wMulS, wf__law_equal, wfEqual, wiRangeDown, and_assoc, wf__law_turns, wf_root, wf_least_rotation]
        obtain ⟨q1, q2, q3⟩ := leastI_ok n1
        refine ⟨n2, (List.range l.length).map (rot l), by rw [List.map_map]; rfl, by rw [List.length_map, List.length_range]; omega, fun m hm hle => ?_⟩
        have em : m = rot l (leastI l) := by
          obtain ⟨i, hi, rfl⟩ := List.mem_map.mp hm
          exact List.le_antisymm (hle _ (List.mem_map.mpr ⟨_, List.mem_range.mpr q1, rfl⟩)) (List.not_lt.mp (q2 i (List.mem_range.mp hi)))
        subst em
        have hfl : Fl 9 (PV.lst ((List.range l.length).map fun k => pS (rot l k))) := fun y hy => by
          obtain ⟨i, _, rfl⟩ := List.mem_map.mp hy
          rw [fl_str, strOk_lt]
          exact ab_ok (rot_ab hl i)
        have hf1 : Fl 8 (PV.tup [pS (l.take (1 + rootI l)), PV.int ((l.length : Int) / (1 + (rootI l : Int)))]) := fun y hy => by
          rcases List.mem_cons.mp hy with rfl | hy
          · rw [fl_str, strOk_lt]
            exact ab_ok (ab_take hl _)
          · rw [List.mem_singleton.mp hy, fl_int]
            trivial
        have hf2 : Fl 8 (PV.tup [pS (rot l (leastI l)), PV.int ((leastI l : Nat) : Int)]) := fun y hy => by
          rcases List.mem_cons.mp hy with rfl | hy
          · rw [fl_str, strOk_lt]
            exact ab_ok (rot_ab hl _)
          · rw [List.mem_singleton.mp hy, fl_int]
            trivial
        have hf3 : Fl 9 (PV.lst [PV.tup [pS (l.take (1 + rootI l)), PV.int ((l.length : Int) / (1 + (rootI l : Int)))], PV.tup [pS (rot l (leastI l)), PV.int ((leastI l : Nat) : Int)]]) := fun y hy => by
          rcases List.mem_cons.mp hy with rfl | hy
          · exact hf1
          · rw [List.mem_singleton.mp hy]
            exact hf2
        refine ⟨hl, n1, n2, hl, n1, n2, _, pow_first n1, hfl, ab_ok (rot_ab hl _), leastI l, pS (rot l (leastI l)), ⟨leastI l, List.getElem?_range q1, rfl⟩, by rw [eqp_str]; exact decide_eq_true rfl, fun j z' hj i hi hz => ?_, rfl, hf3, hf3, ?_, ?_⟩
        · have e1 : i = j := by
            obtain ⟨_, e⟩ := List.getElem?_eq_some_iff.mp hi
            rw [List.getElem_range] at e
            exact e.symm
          subst e1
          rw [← hz, eqp_str]
          refine decide_eq_false fun z => ?_
          rw [lt_inj] at z
          exact q3 i hj z
        · refine ⟨by simp, fun y hy => ?_⟩
          rcases List.mem_cons.mp hy with rfl | hy
          · exact ⟨by simp, fun y hy => by
              rcases List.mem_cons.mp hy with rfl | hy
              · trivial
              · rw [List.mem_singleton.mp hy]; trivial⟩
          · rw [List.mem_singleton.mp hy]
            exact ⟨by simp, fun y hy => by
              rcases List.mem_cons.mp hy with rfl | hy
              · trivial
              · rw [List.mem_singleton.mp hy]; trivial⟩
        · refine wLoop_by (fun k2 ρ => ∃ x12 x13 : Option AV, ρ = [none, some (.fz .strm), some (.fz (pS al)), some (.fz (pS s)), some (.fz (.lst (RS.map pS))), some (.fz (pS (rot r1 1))), some (.fz (pS l)), some (.ow (.lst (powP l l.length))), x8, none, some (.ow (.lst ((List.range l.length).map fun k => pS (rot l k)))), some (.fz (pS (rot l (leastI l)))), x12, x13]) ⟨x12, x13, rfl⟩ ?_ ?_
          · rintro k2 y ρ N2 hy ⟨x12, x13, rfl⟩ hN2
            rw [List.getElem?_map] at hy
            cases hr3 : RS[k2]? with
            | none => rw [hr3] at hy; cases hy
            | some m =>
              rw [hr3] at hy
              cases hy
              obtain ⟨hm, m1, m2⟩ := hrs m (List.mem_of_getElem? hr3)
              simp [wDef, wSeq, wSet, wC, wKeep, keepA, wFor, wiRange1, wiRange2, wiRow, SyP.rowOf, wCons, wNil, wVar, look, wgN, wgTup, wgCons, wgNil, wAug, wAugAdd, wAugMul, wRet, wRetN, retA, wExpr, wIfS, wNext, wBreak, wCont, wOp, wII, wAdd, wSub, wMul, wMod, wDiv, wNeg, wEq, wIn, wIsN, wCmp, cmpI, cmpS, wChain, wB, wTru, truth, szOk, wAnd, wOr, wNot, wAndV, wOrV, wNotV, wIf, wTup, wLst, fzAll, fz1, wIx, wSl, wNo, wYes, SyP.part, wCB, wLen, lenP, wListOf, wTupOf, itemsP, wBools, wSum, wMax, wMin, wMinS, wM2, wInt, intOf, wIsi, isTy, wCall, wN, wM1, kAppend, kExtend, kPopAt, wPop, wAsg, wLc, wTrue, wTurn, wipeE, wLc2, wTurn2, wRaise, wSetIx, wStarts, wEnds, wStr2, wJoin, wSIndex, wLenSet, frzS, fl_int, fl_bl, fl_non, fl_str, eqp_int, eqp_str, lt_len, lt_app, lt_inj, cutS_lt, cutL_to, cutL_from, cutL_mid, rgI_length, Int.natCast_inj, sizeLine_eq, strOk_lt, wiEnum, wiZip, wiRev, wiRevR1, seqOf, wRevS, wRevT, wRevL, wListRg1, wIndexL, wSortedI, wSortedS, wSortedT, wTry, wSortedD, wMinD, wGcd, wMulS, wf__law_equal, wfEqual, wiRangeDown, and_assoc, wf_offset, wf_least_rotation]
              refine ⟨ab_ok hm, hfl, ?_⟩
              have hsame := least_same n1 m1
              have f1 : Fl 9 (pS (rot l (leastI l))) := by rw [fl_str, strOk_lt]; exact ab_ok (rot_ab hl _)
              have f2 : Fl 9 (pS (rot m (leastI m))) := by rw [fl_str, strOk_lt]; exact ab_ok (rot_ab hm _)
              by_cases c : ∃ x, x < l.length ∧ rot l x = m
              · rw [if_pos c]
                cases hoff : offI l m with
                | none =>
                  obtain ⟨x, hx, ex⟩ := c
                  have := List.find?_eq_none.mp hoff x (List.mem_range.mpr hx)
                  simp [ex] at this
                | some k0 =>
                  obtain ⟨o1, o2, o3⟩ := List.find?_range_eq_some.mp hoff
                  have o1 : rot l k0 = m := of_decide_eq_true o1
                  have o2 := List.mem_range.mp o2
                  have ho : offP l m = .int (k0 : Int) := by unfold offP; rw [hoff]
                  rw [ho]
                  refine ⟨hfl, ab_ok hm, k0, pS (rot l k0), ⟨k0, List.getElem?_range o2, rfl⟩, by rw [o1, eqp_str]; exact decide_eq_true rfl, fun j z' hj i hi hz => ?_, hl, hm, n1, n2, m1, m2, rfl, by rw [fl_int]; trivial, trivial, hl, n1, n2, _, rfl, hm, m1, m2, _, rfl, f1, f2, ?_, hN2 _ ⟨_, _, rfl⟩⟩
                  · have e1 : i = j := by
                      obtain ⟨_, e⟩ := List.getElem?_eq_some_iff.mp hi
                      rw [List.getElem_range] at e
                      exact e.symm
                    subst e1
                    rw [← hz, eqp_str]
                    refine decide_eq_false fun z => ?_
                    rw [lt_inj] at z
                    have := o3 i hj
                    simp [z] at this
                  · rw [hsame.mpr c]
                    unfold eqp
                    simp [pd, PyData.eqv]
              · rw [if_neg c]
                have ho : offP l m = .non := by
                  unfold offP
                  rw [offI_no fun j hj e => c ⟨j, hj, e⟩]
                rw [ho]
                refine ⟨hl, hm, n1, n2, m1, m2, rfl, by rw [fl_non]; trivial, trivial, hl, n1, n2, _, rfl, hm, m1, m2, _, rfl, f1, f2, ?_, hN2 _ ⟨_, _, rfl⟩⟩
                have e : eqp (pS (rot l (leastI l))) (pS (rot m (leastI m))) = false := by
                  rw [eqp_str]
                  refine decide_eq_false fun z => c (hsame.mp ?_)
                  rwa [lt_inj] at z
                rw [e]
                unfold eqp
                simp [pd, PyData.eqv]
          · rintro ρ ⟨x12, x13, rfl⟩
            exact hN _ ⟨_, _, _, _, _, _, _, rfl⟩
  · rintro ρ ⟨x6, x7, x8, x10, x11, x12, x13, rfl⟩
    simp [wDef, wSeq, wSet, wC, wKeep, keepA, wFor, wiRange1, wiRange2, wiRow, SyP.rowOf, wCons, wNil, wVar, look, wgN, wgTup, wgCons, wgNil, wAug, wAugAdd, wAugMul, wRet, wRetN, retA, wExpr, wIfS, wNext, wBreak, wCont, wOp, wII, wAdd, wSub, wMul, wMod, wDiv, wNeg, wEq, wIn, wIsN, wCmp, cmpI, cmpS, wChain, wB, wTru, truth, szOk, wAnd, wOr, wNot, wAndV, wOrV, wNotV, wIf, wTup, wLst, fzAll, fz1, wIx, wSl, wNo, wYes, SyP.part, wCB, wLen, lenP, wListOf, wTupOf, itemsP, wBools, wSum, wMax, wMin, wMinS, wM2, wInt, intOf, wIsi, isTy, wCall, wN, wM1, kAppend, kExtend, kPopAt, wPop, wAsg, wLc, wTrue, wTurn, wipeE, wLc2, wTurn2, wRaise, wSetIx, wStarts, wEnds, wStr2, wJoin, wSIndex, wLenSet, frzS, fl_int, fl_bl, fl_non, fl_str, eqp_int, eqp_str, lt_len, lt_app, lt_inj, cutS_lt, cutL_to, cutL_from, cutL_mid, rgI_length, Int.natCast_inj, sizeLine_eq, strOk_lt, wiEnum, wiZip, wiRev, wiRevR1, seqOf, wRevS, wRevT, wRevL, wListRg1, wIndexL, wSortedI, wSortedS, wSortedT, wTry, wSortedD, wMinD, wGcd, wMulS, wf__law_equal, wfEqual, wiRangeDown, and_assoc]
end Sy
namespace Sy
open PySem PySem.Spec PyProof.Rows L2 SyP
def topS (i : Nat) : Stmt := PySem.Challenge.pw_syncedwords_k17_whole_roots_and_least_ro.main.body.getD i (.Pass ⟨0, 0, 0, 0⟩)
open C8 (pss_cut tCut)
abbrev sStream : Stmt := topS 17
abbrev sNext : Stmt := topS 18
theorem scStream : FnScope ["script"] ["script"] (defScope sStream) := ⟨rfl, rfl, rfl, by decide +kernel, rfl, by decide +kernel, by decide +kernel⟩
theorem scNext : FnScope ["stream", "many", "k", "cell", "digit"] ["stream", "many"] (defScope sNext) := ⟨rfl, rfl, rfl, by decide +kernel, rfl, by decide +kernel, by decide +kernel⟩

theorem Strm.at {l s : Addr} {H : Hp} (h : Strm l H s) : ∃ o, H s = some o := ⟨_, h.2.choose_spec.choose_spec.choose_spec.2.2.1⟩
theorem Strm.new {l s p : Addr} {H : Hp} {o : HO} (h : Strm l H s) (n : H p = none) : Strm l (upd H p o) s := by
  obtain ⟨ne, ns, x, k, h1, h2, h3, h4⟩ := h
  exact ⟨ne, ns, x, k, by rw [upd_ne (ne_of_none h1 n)]; exact h1, h2, by rw [upd_ne (ne_of_none h3 n)]; exact h3, h4⟩
theorem Strm.put {l s p : Addr} {H : Hp} {o : HO} (h : Strm l H s) (n1 : p ≠ s) (n2 : p ≠ l) : Strm l (upd H p o) s := by
  obtain ⟨ne, ns, x, k, h1, h2, h3, h4⟩ := h
  exact ⟨ne, ns, x, k, by rw [upd_ne n2.symm]; exact h1, h2, by rw [upd_ne n1.symm]; exact h3, h4⟩

def spNext : Sp := fun vs H Q _ => ∃ (l s : Addr) (m : Int), vs = [.ref s, .int m] ∧ Strm l H s ∧ 0 < m ∧ m < 1073741824 ∧ ∀ d H', 0 ≤ d → d < m → Keep s H H' → Strm l H' s → Q (.int d) H'

section
variable {P : Program} {w : World} {K : PySem.W.Frag} {mg : Str → Option Value} {base : Heap}
theorem ok_stream {f : Addr} {fd : FuncData} (F : Fun K "_law_stream" "_law_stream" sStream f fd) (ml : mg "list" = none) : FnOk P w K mg base CX0 1 f fd ["script"] (spStream K) := by
  refine F.ok scStream (fun vs H Q E h => ?_) (fun cdv A outer s H vs Q E hr h => ?_)
  · obtain ⟨a, ns, rfl, _⟩ := h
    rfl
  · obtain ⟨a, ns, rfl, hS, hl, q⟩ := h
    refine ⟨_, pss_one (ps_ret (pe_lst (pa_cons (pe_callTy call_list_of (by rfl) ml (by decide +kernel) (pa_cons (pv 0) pa_nil)) (pa_cons pe_int (pa_cons pe_int pa_nil))))), ?_⟩
    refine ⟨_, rfl, a, _, rfl, .inl hS, fun l hl0 => ⟨(by show 3 ≤ sizeLine; decide), fun p hp => ?_⟩⟩
    have nlp : l ≠ p := fun e => by
      rw [← e, upd_same] at hp
      cases hp
    have hp0 : H p = none := by
      rw [upd_ne nlp.symm] at hp
      exact hp
    exact q l p _ (Same.new (Same.new (Same.refl H) hl0) hp) hp0 hl0 ⟨nlp, ns, 0, 0, by rw [upd_ne nlp, upd_same], hl, upd_same, Int.le_refl _, Int.le_refl _⟩

theorem ok_next {f : Addr} {fd : FuncData} (F : Fun K "_law_next" "_law_next" sNext f fd) (ml : mg "len" = none) (ma : mg "abs" = none) (mi : mg "int" = none) : FnOk P w K mg base CX0 1 f fd ["stream", "many"] spNext := by
  refine F.ok scNext (fun vs H Q E h => ?_) (fun cdv A outer s H vs Q E hr h => ?_)
  · obtain ⟨l, s, m, rfl, _⟩ := h
    rfl
  · obtain ⟨l, p, m, rfl, hst, hm0, hm1, q⟩ := h
    refine ⟨_, pss_cut (ps_if (pt_cmpR op_eq (pe_ix ix_list (pv 0) pe_int (fun _ _ => rfl)) pe_int (nomark _))
        (pss_cons (ps_set (i := 2) scNext.nd rfl (.inl rfl) (pe_ix ix_list (pv 0) pe_int (fun _ _ => rfl)))
        (pss_cons (ps_set (i := 3) scNext.nd rfl (.inl rfl) (pe_op op_add pe_int (pv 2)))
        (pss_cut (ps_if (pt_cmpR op_lt (pv 2) (pe_callB call_len_seq (by rfl) ml PySem.boot_len (pa_cons (pe_ix ix_list (pv 0) pe_int (fun _ _ => rfl)) pa_nil)) (nomark _))
          (pss_one (ps_set (i := 3) scNext.nd rfl (.inl rfl) (pe_callB call_abs (by rfl) ma (by decide +kernel) (pa_cons (pe_ix ix_list (pe_ix ix_list (pv 0) pe_int (fun _ _ => rfl)) (pv 2) (fun _ _ => rfl)) pa_nil)))) pss_nil)
        (pss_cut (ps_if (pt_cmpR op_lt (pv 3) (pe_op op_pow pe_int pe_int) (nomark _))
          (pss_cons (ps_set (i := 3) scNext.nd rfl (.inl rfl) (pe_op op_mod (pe_callTy call_int1 (by rfl) mi (by decide +kernel) (pa_cons (pe_op op_add (pe_op op_add (pe_op op_mul (pv 3) pe_int) (pe_op op_mul (pv 2) pe_int)) pe_int) pa_nil)) pe_int))
          (pss_one (ps_set (i := 3) scNext.nd rfl (.inl rfl) (pe_op op_add (pe_op op_mul (pe_op op_mod (pe_callTy call_int1 (by rfl) mi (by decide +kernel) (pa_cons (pe_op op_add (pe_op op_mul (pv 3) pe_int) pe_int) pa_nil)) pe_int) pe_int) (pv 3))))) pss_nil)
        (pss_cons (ps_asg (pv 3) (pg_sub (pv 0) pe_int set_list))
        (pss_one (ps_asg (pe_op op_add (pv 2) pe_int) (pg_sub (pv 0) pe_int set_list))))))))
        pss_nil)
      (pss_cons (ps_set (i := 4) scNext.nd rfl (.inl rfl) (pe_op op_mod (pe_callTy call_int1 (by rfl) mi (by decide +kernel) (pa_cons (pe_ix ix_list (pv 0) pe_int (fun _ _ => rfl)) pa_nil)) (pv 1)))
      (pss_cons (ps_asg (pe_op op_fdivN (pe_ix ix_list (pv 0) pe_int (fun _ _ => rfl)) (pv 1)) (pg_sub (pv 0) pe_int set_list))
      (pss_one (ps_ret (pv 4))))), ?_⟩
    obtain ⟨ne, ns, x, k, h1, h2, h3, hx, hk⟩ := hst
    have S3 : SqL K H p [.ref l, .int x, .int k] := SqL.of h3
    refine ⟨fun σ' H' => Keep p H H' ∧ Strm l H' p ∧ ∃ y2 y3 y4, σ' = [some (.ref p), some (.int m), y2, y3, y4], ?_, ?_⟩
    · refine ⟨_, rfl, p, _, 1, .int x, rfl, rfl, S3, atI_nat (j := 1) rfl, rfl, _, rfl, ite2 (fun _ => ?_) (fun _ => ?_)⟩
      · refine ⟨_, rfl, p, _, 2, .int k, rfl, rfl, S3, atI_nat (j := 2) rfl, ?_⟩
        refine ⟨_, rfl, 7, k, rfl, rfl, ?_⟩
        refine ⟨fun σ' H' => H = H' ∧ ∃ c : Int, 0 ≤ c ∧ σ' = [some (.ref p), some (.int m), some (.int k), some (.int c), none], ?_, ?_⟩
        · refine ⟨_, rfl, _, rfl, p, _, 0, .ref l, rfl, rfl, S3, atI_nat (j := 0) rfl, l, _, rfl, .inl (SqL.of h1), k, _, rfl, rfl, _, rfl, ite2 (fun e => ?_) (fun _ => ?_)⟩
          · have hlt := of_decide_eq_true e
            rw [List.length_map] at hlt
            have hj : k.toNat < ns.length := by omega
            have ek : k = ((k.toNat : Nat) : Int) := by omega
            have g : (ns.map V.int)[k.toNat]? = some (.int ns[k.toNat]) := by
              rw [List.getElem?_map, List.getElem?_eq_getElem hj]
              rfl
            refine ⟨_, rfl, p, _, 0, .ref l, rfl, rfl, S3, atI_nat (j := 0) rfl, _, rfl, l, _, k, _, rfl, rfl, SqL.of h1, at_of ek g, _, rfl, rfl, _, ?_, rfl⟩
            split <;> omega
          · exact ⟨rfl, _, by omega, rfl⟩
        · rintro σ' H' ⟨rfl, c, hc, rfl⟩
          refine ⟨fun σ' H' => H = H' ∧ ∃ c : Int, 0 ≤ c ∧ σ' = [some (.ref p), some (.int m), some (.int k), some (.int c), none], ?_, ?_⟩
          · refine ⟨_, rfl, 10, 18, rfl, rfl, ⟨by decide, by decide, by decide⟩, c, _, rfl, rfl, _, rfl, ite2 (fun _ => ?_) (fun _ => ⟨rfl, c, hc, rfl⟩)⟩
            refine ⟨_, rfl, c, 48271, rfl, rfl, .inr ⟨by decide, by decide⟩, _, rfl, k, 69621, rfl, rfl, .inr ⟨by decide, by decide⟩, _, _, rfl, rfl, _, _, rfl, rfl, .inl ⟨_, rfl, _, _, rfl, rfl, (by show (0 : Int) < 2147483647; decide), ?_⟩⟩
            refine ⟨_, rfl, _, 16807, rfl, rfl, .inr ⟨by decide, by decide⟩, _, _, rfl, rfl, .inl ⟨_, rfl, _, _, rfl, rfl, (by show (0 : Int) < 2147483647; decide), _, _, rfl, rfl, .inr ⟨by decide, by decide⟩, _, rfl, _, _, rfl, rfl, ?_⟩⟩
            refine ⟨rfl, _, ?_, rfl⟩
            have m1 := Int.emod_nonneg (c * 48271 + k * 69621 + 11) (show (2147483647 : Int) ≠ 0 by decide)
            have m2 := Int.emod_nonneg ((c * 48271 + k * 69621 + 11) % 2147483647 * 16807 + 13) (show (2147483647 : Int) ≠ 0 by decide)
            omega
          · rintro σ' H' ⟨rfl, c, hc, rfl⟩
            refine ⟨_, rfl, _, rfl, p, _, 1, 1, rfl, rfl, h3, rfl, ?_⟩
            refine ⟨_, rfl, k, 1, rfl, rfl, _, rfl, p, _, 2, 2, rfl, rfl, upd_same, rfl, ?_⟩
            refine ⟨(Keep.refl _).put.put, ⟨ne, ns, c, k + 1, ?_, h2, upd_same, hc, by omega⟩, _, _, _, rfl⟩
            rw [upd_ne ne, upd_ne ne]
            exact h1
      · exact ⟨Keep.refl _, ⟨ne, ns, x, k, h1, h2, h3, hx, hk⟩, _, _, _, rfl⟩
    · rintro σ' H' ⟨kp, ⟨_, ns, x, k, h1, h2, h3, hx, hk⟩, y2, y3, y4, rfl⟩
      have S3 : SqL K H' p [.ref l, .int x, .int k] := SqL.of h3
      refine ⟨_, rfl, p, _, 1, .int x, rfl, rfl, S3, atI_nat (j := 1) rfl, .inl ⟨x, rfl, _, rfl, x, m, rfl, rfl, hm0, ?_⟩⟩
      refine ⟨_, rfl, p, _, 1, .int x, rfl, rfl, S3, atI_nat (j := 1) rfl, _, rfl, x, m, rfl, rfl, ⟨by omega, by omega⟩, ?_⟩
      refine ⟨_, rfl, p, _, 1, 1, rfl, rfl, h3, rfl, _, rfl, ?_⟩
      refine q _ _ (Int.emod_nonneg _ (by omega)) (Int.emod_lt_of_pos _ hm0) kp.put ⟨ne, ns, x.fdiv m, k, by rw [upd_ne ne]; exact h1, h2, upd_same, ?_, hk⟩
      rw [Int.fdiv_eq_ediv_of_nonneg _ (by omega)]
      exact Int.ediv_nonneg hx (by omega)
/-- what raises nothing, among defs that raise -/
theorem FnOk.toX {k : Nat} {f : Addr} {fd : FuncData} {ps : List Str} {sp : Sp} (F : FnOk P w K mg base CX0 k f fd ps sp) : FnOk P w K mg base (L2.CX P w) k f fd ps sp :=
  ⟨F.len, fun A outer s H args us vs Q E hr he hb hv hs => codeAny_mono (F.run A outer s H args us vs Q E hr he hb hv hs) fun r s' h => by
    cases r with
    | error e => exact h.elim
    | ok fl => cases fl <;> exact h⟩
/-- a number of the stream, as a pure promise -/
theorem has_next {f : Addr} {fd : FuncData} (F : Fun K "_law_next" "_law_next" sNext f fd) (hm : mg "_law_next" = some (.ref f)) (hb : Binds K fd ["stream", "many"] []) (NB : NoB mg) : HasF P w K mg base 1 "_law_next" ["stream", "many"] wf__law_next :=
  has_of F hm hb ((FnOk.toX (ok_next F (NB "len" (by decide)) (NB "abs" (by decide)) (NB "int" (by decide)))).imp fun vs H Q E h => by
    obtain ⟨G, ps, Q', E', rfl, sk, so, od, r, hl, ⟨m, rfl, h0, h1, q⟩, qr, qe⟩ := h
    unfold Reps Reps Reps at r
    obtain ⟨v1, _, rfl, r1, v2, _, rfl, r2, rfl⟩ := r
    unfold Rep at r1 r2
    obtain ⟨l, s, hs, rfl⟩ := r1
    subst r2
    refine ⟨l, s, m, rfl, sk l s hs, h0, h1, fun d H' hd0 hd1 kp st => ?_⟩
    refine qr _ (q d.toNat (by omega)) _ _ ⟨fun b o n e => kp b o (n l s hs) e, fun l2 s2 e => ?_, ?_⟩
    · rw [hs] at e
      cases e
      exact st
    · show Rep K G.sa (msk G.O H') (.int d.toNat) (.int d)
      unfold Rep
      rw [Int.toNat_of_nonneg hd0])
end

abbrev sIsInt : Stmt := topS 19
abbrev sEqual : Stmt := topS 20
theorem scIsInt : FnScope ["actual"] ["actual"] (defScope sIsInt) := ⟨rfl, rfl, rfl, by decide +kernel, rfl, by decide +kernel, by decide +kernel⟩
theorem scEqual : FnScope ["actual", "due", "at"] ["actual", "due"] (defScope sEqual) := ⟨rfl, rfl, rfl, by decide +kernel, rfl, by decide +kernel, by decide +kernel⟩
mutual
theorem Dp.same {K : PySem.W.Frag} {H H' : Hp} (k : Same H H') : ∀ (d : PyData) (v : V), Dp K H v d → Dp K H' v d
  | .none, _, h => by cases h; exact .non
  | .bool b, _, h => by cases h; exact .bl b
  | .int i, _, h => by cases h; exact .int i
  | .str x, _, h => by cases h; exact .str x
  | .list ds, _, h => by
    cases h with
    | lst hs ha => exact .lst (k.seq hs) (Dp.sameAll k ds _ ha)
  | .tuple ds, _, h => by
    cases h with
    | tup hs ha => exact .tup (Same.tup k hs) (Dp.sameAll k ds _ ha)
  | .dict _, _, h => by cases h
theorem Dp.sameAll {K : PySem.W.Frag} {H H' : Hp} (k : Same H H') : ∀ (ds : List PyData) (vs : List V), DpAll K H vs ds → DpAll K H' vs ds
  | [], _, h => by cases h; exact .nil
  | d :: ds, _, h => by
    cases h with
    | cons a b => exact .cons (Dp.same k d _ a) (Dp.sameAll k ds _ b)
end
theorem DpAll.len {K : PySem.W.Frag} {H : Hp} : ∀ {vs : List V} {ds : List PyData}, DpAll K H vs ds → vs.length = ds.length
  | _, _, .nil => rfl
  | _, _, .cons _ b => by rw [List.length_cons, List.length_cons, DpAll.len b]
theorem DpAll.get {K : PySem.W.Frag} {H : Hp} : ∀ {vs : List V} {ds : List PyData} {i : Nat} {d : PyData}, DpAll K H vs ds → ds[i]? = some d → ∃ v, vs[i]? = some v ∧ Dp K H v d
  | _, _, _, _, .nil, h => by simp at h
  | _, _, 0, _, .cons a _, h => by
    cases Option.some.inj h
    exact ⟨_, rfl, a⟩
  | _, _, i + 1, _, .cons _ b, h => DpAll.get (i := i) b h
def spIsInt : Sp := fun vs H Q _ => ∃ i : Int, vs = [.int i] ∧ Q (.bl true) H
def spEqual (K : PySem.W.Frag) (n : Nat) : Sp := fun vs H Q _ => ∃ (x y : V) (d : PyData), vs = [x, y] ∧ Dp K H x d ∧ Dp K H y d ∧ okD n d ∧ ∀ H', Same H H' → Q (.bl true) H'

section
variable {P : Program} {w : World} {K : PySem.W.Frag} {mg : Str → Option Value} {base : Heap}
theorem ok_isint {f : Addr} {fd : FuncData} (F : Fun K "_law_is_integer" "_law_is_integer" sIsInt f fd) (mi : mg "isinstance" = none) (mn : mg "int" = none) (mb : mg "bool" = none) : FnOk P w K mg base CX0 1 f fd ["actual"] spIsInt := by
  refine F.ok scIsInt (fun vs H Q E h => ?_) (fun cdv A outer s H vs Q E hr h => ?_)
  · obtain ⟨i, rfl, _⟩ := h
    rfl
  · obtain ⟨i, rfl, q⟩ := h
    refine ⟨_, pss_one (ps_ret (pe_and (pe_callB call_isi (by rfl) mi (by decide +kernel) (pa_cons (pv 0) (pa_cons (pe_bltn (v := .ty "int") (by rfl) mn (by decide +kernel) rfl) pa_nil)))
      (pe_one (pe_not (pe_callB call_isi (by rfl) mi (by decide +kernel) (pa_cons (pv 0) (pa_cons (pe_bltn (v := .ty "bool") (by rfl) mb (by decide +kernel) rfl) pa_nil))))))), ?_⟩
    exact ⟨_, rfl, _, _, _, _, true, rfl, .ty "int", .base (.int i), kit_ty (by decide +kernel), true, rfl, iteT ⟨_, rfl, _, _, _, _, false, rfl, .ty "bool", .base (.int i), kit_ty (by decide +kernel), false, rfl, q⟩⟩
theorem ok_equal {f fi : Addr} {fd fdi : FuncData} (F : Fun K "_law_equal" "_law_equal" sEqual f fd) (bF : Binds K fd ["actual", "due"] []) (gF : mg "_law_equal" = some (.ref f))
    (FI : Fun K "_law_is_integer" "_law_is_integer" sIsInt fi fdi) (GI : FnOk P w K mg base CX0 1 fi fdi ["actual"] spIsInt) (bI : Binds K fdi ["actual"] []) (gI : mg "_law_is_integer" = some (.ref fi))
    (mi : mg "isinstance" = none) (mb : mg "bool" = none) (mn : mg "int" = none) (ms : mg "str" = none) (mt : mg "tuple" = none) (mL : mg "list" = none) (ml : mg "len" = none) (ma : mg "all" = none) (mr : mg "range" = none) :
    ∀ n, FnOk P w K mg base CX0 (n + 1) f fd ["actual", "due"] (spEqual K n)
  | 0 => ⟨fun vs H Q E h => (let ⟨_, _, _, e, _⟩ := h; by rw [e]; rfl), fun A outer s H args us vs Q E hr e0 hb hv h => (let ⟨_, _, _, _, _, _, z, _⟩ := h; z.elim)⟩
  | n + 1 => by
    have GE := ok_equal F bF gF FI GI bI gI mi mb mn ms mt mL ml ma mr n
    refine F.ok scEqual (fun vs H Q E h => ?_) (fun cdv A outer s H vs Q E hr h => ?_)
    · obtain ⟨x, y, d, rfl, _⟩ := h
      rfl
    · obtain ⟨x, y, d, rfl, hx, hy, hd, q⟩ := h
      have hr1 : Room 1 _ := hr.mono (by omega)
      refine ⟨_, pss_cons (ps_if (pt_cmpR op_isN (pv 1) pe_non (nomark _)) (pss_one (ps_ret (pe_cmpR op_isN (pv 0) pe_non (nomark _)))) pss_nil)
        (pss_cons (ps_if (pt_val (pe_callB call_isi (by rfl) mi (by decide +kernel) (pa_cons (pv 1) (pa_cons (pe_bltn (v := .ty "bool") (by rfl) mb (by decide +kernel) rfl) pa_nil))))
          (pss_one (ps_ret (pe_and (pe_callB call_isi (by rfl) mi (by decide +kernel) (pa_cons (pv 0) (pa_cons (pe_bltn (v := .ty "bool") (by rfl) mb (by decide +kernel) rfl) pa_nil))) (pe_one (pe_cmpR op_eq (pv 0) (pv 1) (nomark _)))))) pss_nil)
        (pss_cons (ps_if (pt_val (pe_callB call_isi (by rfl) mi (by decide +kernel) (pa_cons (pv 1) (pa_cons (pe_bltn (v := .ty "int") (by rfl) mn (by decide +kernel) rfl) pa_nil))))
          (pss_one (ps_ret (pe_and (pe_call GI hr1 (by rfl) gI FI.kp bI .nil pass0 (pa_cons (pv 0) pa_nil)) (pe_one (pe_cmpR op_eq (pv 0) (pv 1) (nomark _)))))) pss_nil)
        (pss_cons (ps_if (pt_val (pe_callB call_isi (by rfl) mi (by decide +kernel) (pa_cons (pv 1) (pa_cons (pe_bltn (v := .ty "str") (by rfl) ms (by decide +kernel) rfl) pa_nil))))
          (pss_one (ps_ret (pe_and (pe_callB call_isi (by rfl) mi (by decide +kernel) (pa_cons (pv 0) (pa_cons (pe_bltn (v := .ty "str") (by rfl) ms (by decide +kernel) rfl) pa_nil))) (pe_one (pe_cmpR op_eq (pv 0) (pv 1) (nomark _)))))) pss_nil)
        (pss_cons (ps_if (PW.pt (pw_and (pt_val (pe_callB call_isi (by rfl) mi (by decide +kernel) (pa_cons (pv 1) (pa_cons (pe_bltn (v := .ty "tuple") (by rfl) mt (by decide +kernel) rfl) pa_nil))))
          (pw_and1 (pt_not (pt_val (pe_callB call_isi (by rfl) mi (by decide +kernel) (pa_cons (pv 0) (pa_cons (pe_bltn (v := .ty "tuple") (by rfl) mt (by decide +kernel) rfl) pa_nil)))))))) pss_never pss_nil)
        (pss_cons (ps_if (PW.pt (pw_and (pt_val (pe_callB call_isi (by rfl) mi (by decide +kernel) (pa_cons (pv 1) (pa_cons (pe_bltn (v := .ty "list") (by rfl) mL (by decide +kernel) rfl) pa_nil))))
          (pw_and1 (pt_not (pt_val (pe_callB call_isi (by rfl) mi (by decide +kernel) (pa_cons (pv 0) (pa_cons (pe_bltn (v := .ty "list") (by rfl) mL (by decide +kernel) rfl) pa_nil)))))))) pss_never pss_nil)
        (pss_cons (ps_if (pt_cmpR op_ne (pe_callB call_len_seq (by rfl) ml PySem.boot_len (pa_cons (pv 0) pa_nil)) (pe_callB call_len_seq (by rfl) ml PySem.boot_len (pa_cons (pv 1) pa_nil)) (nomark _)) pss_never pss_nil)
        (pss_one (ps_ret (pe_callB (cr_all rfl) (by rfl) ma (by decide +kernel) (pa_cons (pe_lc (own := [("at", 2)]) (g := gName 2) (tt := tYes) rfl scEqual.nd
          (pi_range1 rfl mr (pa_cons (pe_callB call_len_seq (by rfl) ml PySem.boot_len (pa_cons (pv 1) pa_nil)) pa_nil))
          (blkOk_by (own := [("at", 2)]) (N := ["actual", "due", "at"]) (sc := defScope sEqual) (by decide +kernel))
          (fun _ _ _ _ _ => pg_name (i := 2) scEqual.nd rfl (Or.inl rfl)) (fun _ _ _ _ _ => pts_nil)
          (fun _ _ _ _ _ => pe_call GE hr (by rfl) gF F.kp bF .nil pass0 (pa_cons (pe_ix (r := rIx K) ix_seq (pv 0) (pv 2) (fun _ _ => rfl)) (pa_cons (pe_ix (r := rIx K) ix_seq (pv 1) (pv 2) (fun _ _ => rfl)) pa_nil)))) pa_nil)))))))))), ?_⟩
      cases d with
      | none =>
        cases hx
        cases hy
        exact ⟨_, rfl, rfl, _, rfl, iteT ⟨_, rfl, rfl, q H (Same.refl H)⟩⟩
      | bool b =>
        cases hx
        cases hy
        refine ⟨_, rfl, rfl, _, rfl, iteF ⟨_, rfl, _, _, _, _, true, rfl, .ty "bool", .base (.bl b), kit_ty (by decide +kernel), _, rfl, iteT ⟨_, rfl, _, _, _, _, true, rfl, .ty "bool", .base (.bl b), kit_ty (by decide +kernel), _, rfl, iteT ⟨_, rfl, _, rfl, rfl, ?_⟩⟩⟩⟩
        rw [decide_eq_true rfl]
        exact q H (Same.refl H)
      | int i =>
        cases hx
        cases hy
        refine ⟨_, rfl, rfl, _, rfl, iteF ⟨_, rfl, _, _, _, _, false, rfl, .ty "bool", .base (.int i), kit_ty (by decide +kernel), _, rfl, iteF ⟨_, rfl, _, _, _, _, true, rfl, .ty "int", .base (.int i), kit_ty (by decide +kernel), _, rfl, iteT ⟨_, rfl, i, rfl, true, rfl, iteT ⟨_, rfl, _, rfl, rfl, ?_⟩⟩⟩⟩⟩
        rw [decide_eq_true rfl]
        exact q H (Same.refl H)
      | str z =>
        cases hx
        cases hy
        refine ⟨_, rfl, rfl, _, rfl, iteF ⟨_, rfl, _, _, _, _, false, rfl, .ty "bool", .base (.str z), kit_ty (by decide +kernel), _, rfl, iteF ⟨_, rfl, _, _, _, _, false, rfl, .ty "int", .base (.str z), kit_ty (by decide +kernel), _, rfl,
          iteF ⟨_, rfl, _, _, _, _, true, rfl, .ty "str", .base (.str z), kit_ty (by decide +kernel), _, rfl, iteT ⟨_, rfl, _, _, _, _, true, rfl, .ty "str", .base (.str z), kit_ty (by decide +kernel), _, rfl, iteT ⟨_, rfl, _, rfl, rfl, ?_⟩⟩⟩⟩⟩⟩
        rw [decide_eq_true rfl]
        exact q H (Same.refl H)
      | dict _ => exact hd.elim
      | list ds =>
        obtain ⟨hd1, hd2⟩ := hd
        cases hx with
        | @lst a xs _ sx ax =>
          cases hy with
          | @lst b ys _ sy ay =>
            have lx := DpAll.len ax
            have ly := DpAll.len ay
            refine ⟨_, rfl, rfl, _, rfl, iteF ?_⟩
            refine ⟨_, rfl, _, _, _, _, false, rfl, .ty "bool", ty_lst sy, kit_ty (by decide +kernel), _, rfl, iteF ?_⟩
            refine ⟨_, rfl, _, _, _, _, false, rfl, .ty "int", ty_lst sy, kit_ty (by decide +kernel), _, rfl, iteF ?_⟩
            refine ⟨_, rfl, _, _, _, _, false, rfl, .ty "str", ty_lst sy, kit_ty (by decide +kernel), _, rfl, iteF ?_⟩
            refine ⟨_, rfl, _, _, _, _, false, rfl, .ty "tuple", ty_lst sy, kit_ty (by decide +kernel), _, rfl, iteF (iteF ?_)⟩
            refine ⟨_, rfl, _, _, _, _, true, rfl, .ty "list", ty_lst sy, kit_ty (by decide +kernel), _, rfl, iteT ?_⟩
            refine ⟨_, rfl, _, _, _, _, true, rfl, .ty "list", ty_lst sx, kit_ty (by decide +kernel), _, rfl, iteF ?_⟩
            refine ⟨_, rfl, a, xs, rfl, .inl sx, _, rfl, b, ys, rfl, .inl sy, rfl, _, rfl, iteNS (by rw [lx, ly]) ?_⟩
            refine ⟨_, rfl, b, ys, rfl, .inl sy, _, rfl, by omega, by omega, fun D hD => ?_⟩
            refine lc_range (lo := 0) (n := (ys.length : Int).toNat) (fun i H' => Same H H' ∧ H' D = some (.lst ((List.replicate i true).map V.bl))) ⟨Same.new (Same.refl H) hD, by rw [upd_same]; rfl⟩ (fun i H1 hi hP => ?_) (fun H' hP => ?_)
            · obtain ⟨sm, hl⟩ := hP
              have hid : i < ds.length := by omega
              have gd := List.getElem?_eq_getElem hid
              obtain ⟨v, gv, dv⟩ := DpAll.get ax gd
              obtain ⟨u, gu, du⟩ := DpAll.get ay gd
              refine ⟨rfl, tYes_ok ?_⟩
              refine ⟨_, rfl, _, rfl, .inl ⟨a, xs, _, v, rfl, rfl, sm.seq sx, at_of (by omega) gv, ?_⟩⟩
              refine ⟨_, rfl, _, rfl, .inl ⟨b, ys, _, u, rfl, rfl, sm.seq sy, at_of (by omega) gu, ?_⟩⟩
              refine ⟨v, u, ds[i], rfl, Dp.same sm _ _ dv, Dp.same sm _ _ du, hd2 _ (List.getElem_mem hid), fun H2 s2 => ⟨_, s2 _ _ hl, ?_, Same.put' (sm.trans s2) hD, ?_⟩⟩
              · rw [List.length_map, List.length_replicate, sizeLine_eq]
                omega
              · rw [upd_same, List.replicate_succ', List.map_append]
                rfl
            · obtain ⟨sm, hl⟩ := hP
              refine ⟨D, _, rfl, SqL.of hl, ?_⟩
              rw [show (List.replicate (ys.length : Int).toNat true).all id = true from List.all_eq_true.mpr fun z hz => by rw [List.eq_of_mem_replicate hz]; rfl]
              exact q _ sm
      | tuple ds =>
        obtain ⟨hd1, hd2⟩ := hd
        cases hx with
        | @tup a xs _ sx ax =>
          cases hy with
          | @tup b ys _ sy ay =>
            have lx := DpAll.len ax
            have ly := DpAll.len ay
            refine ⟨_, rfl, rfl, _, rfl, iteF ?_⟩
            refine ⟨_, rfl, _, _, _, _, false, rfl, .ty "bool", ty_tup sy, kit_ty (by decide +kernel), _, rfl, iteF ?_⟩
            refine ⟨_, rfl, _, _, _, _, false, rfl, .ty "int", ty_tup sy, kit_ty (by decide +kernel), _, rfl, iteF ?_⟩
            refine ⟨_, rfl, _, _, _, _, false, rfl, .ty "str", ty_tup sy, kit_ty (by decide +kernel), _, rfl, iteF ?_⟩
            refine ⟨_, rfl, _, _, _, _, true, rfl, .ty "tuple", ty_tup sy, kit_ty (by decide +kernel), _, rfl, iteT ?_⟩
            refine ⟨_, rfl, _, _, _, _, true, rfl, .ty "tuple", ty_tup sx, kit_ty (by decide +kernel), _, rfl, iteF ?_⟩
            refine ⟨_, rfl, _, _, _, _, false, rfl, .ty "list", ty_tup sy, kit_ty (by decide +kernel), _, rfl, iteF (iteF ?_)⟩
            refine ⟨_, rfl, a, xs, rfl, .inr sx, _, rfl, b, ys, rfl, .inr sy, rfl, _, rfl, iteNS (by rw [lx, ly]) ?_⟩
            refine ⟨_, rfl, b, ys, rfl, .inr sy, _, rfl, by omega, by omega, fun D hD => ?_⟩
            refine lc_range (lo := 0) (n := (ys.length : Int).toNat) (fun i H' => Same H H' ∧ H' D = some (.lst ((List.replicate i true).map V.bl))) ⟨Same.new (Same.refl H) hD, by rw [upd_same]; rfl⟩ (fun i H1 hi hP => ?_) (fun H' hP => ?_)
            · obtain ⟨sm, hl⟩ := hP
              have hid : i < ds.length := by omega
              have gd := List.getElem?_eq_getElem hid
              obtain ⟨v, gv, dv⟩ := DpAll.get ax gd
              obtain ⟨u, gu, du⟩ := DpAll.get ay gd
              refine ⟨rfl, tYes_ok ?_⟩
              refine ⟨_, rfl, _, rfl, .inr (.inl ⟨a, xs, _, v, rfl, rfl, Same.tup sm sx, at_of (by omega) gv, ?_⟩)⟩
              refine ⟨_, rfl, _, rfl, .inr (.inl ⟨b, ys, _, u, rfl, rfl, Same.tup sm sy, at_of (by omega) gu, ?_⟩)⟩
              refine ⟨v, u, ds[i], rfl, Dp.same sm _ _ dv, Dp.same sm _ _ du, hd2 _ (List.getElem_mem hid), fun H2 s2 => ⟨_, s2 _ _ hl, ?_, Same.put' (sm.trans s2) hD, ?_⟩⟩
              · rw [List.length_map, List.length_replicate, sizeLine_eq]
                omega
              · rw [upd_same, List.replicate_succ', List.map_append]
                rfl
            · obtain ⟨sm, hl⟩ := hP
              refine ⟨D, _, rfl, SqL.of hl, ?_⟩
              rw [show (List.replicate (ys.length : Int).toNat true).all id = true from List.all_eq_true.mpr fun z hz => by rw [List.eq_of_mem_replicate hz]; rfl]
              exact q _ sm
/-- equal data, as a pure promise -/
theorem has_equal {f fi : Addr} {fd fdi : FuncData} (F : Fun K "_law_equal" "_law_equal" sEqual f fd) (hm : mg "_law_equal" = some (.ref f)) (hb : Binds K fd ["actual", "due"] [])
    (FI : Fun K "_law_is_integer" "_law_is_integer" sIsInt fi fdi) (hmI : mg "_law_is_integer" = some (.ref fi)) (hbI : Binds K fdi ["actual"] []) (NB : NoB mg) (n : Nat) : HasF P w K mg base (n + 1) "_law_equal" ["actual", "due"] (wfEqual n) :=
  has_of F hm hb ((FnOk.toX (ok_equal F hb hm FI (ok_isint FI (NB "isinstance" (by decide)) (NB "int" (by decide)) (NB "bool" (by decide))) hbI hmI (NB "isinstance" (by decide)) (NB "bool" (by decide)) (NB "int" (by decide)) (NB "str" (by decide)) (NB "tuple" (by decide)) (NB "list" (by decide)) (NB "len" (by decide)) (NB "all" (by decide)) (NB "range" (by decide)) n)).imp fun vs H Q E h => by
    obtain ⟨G, ps, Q', E', rfl, sk, so, od, r, hl, ⟨p, q, rfl, he, hp, hq, hk, w⟩, qr, qe⟩ := h
    unfold Reps Reps Reps at r
    obtain ⟨v1, _, rfl, r1, v2, _, rfl, r2, rfl⟩ := r
    refine ⟨v1, v2, pd p, rfl, Rep.dp hp (Rep.same msk_top r1), by rw [he]; exact Rep.dp hq (Rep.same msk_top r2), okD_of hk, fun H' sm => ?_⟩
    exact qr _ w _ _ ⟨Fra.of sm, saOk.same sm sk, by show Rep K G.sa (msk G.O H') (.bl true) (.bl true); unfold Rep; rfl⟩)
end

abbrev sBadValueInit : Stmt := inClass (topS 2) 0
theorem scBadValueInit : FnScope ["self", "name"] ["self", "name"] (defScope sBadValueInit) := ⟨rfl, rfl, rfl, by decide +kernel, rfl, by decide +kernel, by decide +kernel⟩
theorem ok_BadValueinit {P : Program} {w : World} {K : PySem.W.Frag} {mg : Str → Option Value} {base : Heap} {f C : Addr} {fd : FuncData} (F : Fun K "__init__" "BadValue.__init__" sBadValueInit f fd) (T : OexC K C) (no : PySem.W.findIn K (.ref C) "name" = some none) : FnOk P w K mg base CX0 1 f fd ["self", "name"] (spXi C "name") := by
  refine F.ok scBadValueInit (fun vs H Q E h => ?_) (fun cdv A outer s H vs Q E hr h => ?_)
  · obtain ⟨a, v, rfl, _⟩ := h
    rfl
  · obtain ⟨a, v, rfl, ha, q⟩ := h
    exact ⟨_, pss_one (ps_ost (pv 0) (pv 1)), _, rfl, _, rfl, a, C, rfl, T, no, .inl ⟨ha, fun dx h1 h2 => q dx h1 h2⟩⟩

abbrev s__law_string : Stmt := topS 21
abbrev n__law_string : List Str := ["stream", "letters", "least", "most", "many", "turn"]
theorem sc__law_string : FnScope n__law_string ["stream", "letters", "least", "most"] (defScope s__law_string) := ⟨rfl, rfl, rfl, by decide +kernel, rfl, by decide +kernel, by decide +kernel⟩
set_option maxHeartbeats 1000000 in
theorem ok__law_string {P : Program} {w : World} {K : PySem.W.Frag} {mg : Str → Option Value} {base : Heap} {f : Addr} {fd : FuncData} (F : Fun K "_law_string" "_law_string" s__law_string f fd) (NB : NoB mg) (h__law_next : HasF P w K mg base 1 "_law_next" ["stream", "many"] wf__law_next) :
    FnOk P w K mg base (L2.CX P w) 2 f fd ["stream", "letters", "least", "most"] (spW (CC.of K mg) 4 wr__law_string) :=
  def_ok F sc__law_string fun cdv A outer s H E hr =>
    (qss_cons (qs_set (i := 4) sc__law_string.nd rfl (.inl rfl) (qe_op o2_add op_addP (qe_var (pv 2)) (qe_f h__law_next rfl ⟨rfl, rfl⟩ (hr.mono (by decide)) (by rfl) (passes_E (takes_of rfl rfl rfl rfl)) (qa_cons (qe_var (pv 0)) (qa_cons (qe_op o2_add op_addP (qe_op o2_sub op_sub (qe_var (pv 3)) (qe_var (pv 2))) qe_int) qa_nil)))))
     (qss_one (qs_ret (qe_join rfl qe_str (qe_lc rfl sc__law_string.nd (qi_range1 (by rfl) (NB "range" (by decide)) (qa_cons (qe_var (pv 4)) qa_nil)) (blkOk_by (own := [("turn", 5)]) (N := n__law_string) (sc := defScope s__law_string) (by decide +kernel)) rfl (by decide) (fun _ _ _ _ _ => (qg_name (pg_name (i := 5) sc__law_string.nd rfl (Or.inl rfl)))) (fun _ _ _ _ _ => qts_nil) (fun _ _ _ _ _ => (qe_ix rfl (qe_var (pv 1)) (qe_f h__law_next rfl ⟨rfl, rfl⟩ (hr.mono (by decide)) (by rfl) passes_no (qa_cons (qe_var (pv 0)) (qa_cons (qe_callB cp_len ca_lenR (by rfl) (NB "len" (by decide)) PySem.boot_len (qa_cons (qe_var (pv 1)) qa_nil)) qa_nil))) (fun _ _ => rfl))))))))

abbrev s__law_turns : Stmt := topS 22
abbrev n__law_turns : List Str := ["ring", "many"]
theorem sc__law_turns : FnScope n__law_turns ["ring"] (defScope s__law_turns) := ⟨rfl, rfl, rfl, by decide +kernel, rfl, by decide +kernel, by decide +kernel⟩
set_option maxHeartbeats 1000000 in
theorem ok__law_turns {P : Program} {w : World} {K : PySem.W.Frag} {mg : Str → Option Value} {base : Heap} {f : Addr} {fd : FuncData} (F : Fun K "_law_turns" "_law_turns" s__law_turns f fd) (NB : NoB mg)  :
    FnOk P w K mg base (L2.CX P w) 1 f fd ["ring"] (spW (CC.of K mg) 1 wr__law_turns) :=
  def_ok F sc__law_turns fun cdv A outer s H E hr =>
    (qss_one (qs_ret (qe_lc rfl sc__law_turns.nd (qi_range1 (by rfl) (NB "range" (by decide)) (qa_cons (qe_callB cp_len ca_lenR (by rfl) (NB "len" (by decide)) PySem.boot_len (qa_cons (qe_var (pv 0)) qa_nil)) qa_nil)) (blkOk_by (own := [("many", 1)]) (N := n__law_turns) (sc := defScope s__law_turns) (by decide +kernel)) rfl (by decide) (fun _ _ _ _ _ => (qg_name (pg_name (i := 1) sc__law_turns.nd rfl (Or.inl rfl)))) (fun _ _ _ _ _ => qts_nil) (fun _ _ _ _ _ => (qe_op o2_add op_addP (qe_slice rfl (qe_var (pv 0)) (qo_some (qe_var (pv 1))) qo_none) (qe_slice rfl (qe_var (pv 0)) qo_none (qo_some (qe_var (pv 1)))))))))

abbrev s_has_letters : Stmt := topS 5
abbrev n_has_letters : List Str := ["value", "least", "most", "letter"]
theorem sc_has_letters : FnScope n_has_letters ["value", "least", "most"] (defScope s_has_letters) := ⟨rfl, rfl, rfl, by decide +kernel, rfl, by decide +kernel, by decide +kernel⟩
set_option maxHeartbeats 1000000 in
theorem ok_has_letters {P : Program} {w : World} {K : PySem.W.Frag} {mg : Str → Option Value} {base : Heap} {f : Addr} {fd : FuncData} (F : Fun K "has_letters" "has_letters" s_has_letters f fd) (NB : NoB mg) (c_LETTERS : CS mg "LETTERS" "abc") :
    FnOk P w K mg base (L2.CX P w) 1 f fd ["value", "least", "most"] (spW (CC.of K mg) 3 wr_has_letters) :=
  def_ok F sc_has_letters fun cdv A outer s H E hr =>
    (qss_cons (qs_if (qt_w (qw_or (qt_not (qt_val (qe_isi (T := "str") (by decide) rfl (by rfl) (NB "isinstance" (by decide)) (qe_var (pv 0)) (pe_bltn (v := .ty "str") (by rfl) (NB "str" (by decide)) (by decide +kernel) rfl)) rfl (by intro _; rfl))) (qw_or1 (qt_not (qt_chain oi_le oi_le (qe_var (pv 1)) (qe_callB cp_len ca_lenR (by rfl) (NB "len" (by decide)) PySem.boot_len (qa_cons (qe_var (pv 0)) qa_nil)) (qe_var (pv 2))))))) (qss_one (qs_ret qe_bl)) qss_nil)
     (qss_one (qs_ret (qe_callB cp_all (cr_all rfl) (by rfl) (NB "all" (by decide)) (by decide +kernel) (qa_cons (qe_lc rfl sc_has_letters.nd (qi_row rfl (qe_var (pv 0))) (blkOk_by (own := [("letter", 3)]) (N := n_has_letters) (sc := defScope s_has_letters) (by decide +kernel)) rfl (by decide) (fun _ _ _ _ _ => (qg_name (pg_name (i := 3) sc_has_letters.nd rfl (Or.inl rfl)))) (fun _ _ _ _ _ => qts_nil) (fun _ _ _ _ _ => (qe_cmp o2_in (op_inP (u65 hr)) (qe_var (pv 3)) (qe_gS c_LETTERS (by rfl)) (by rfl)))) qa_nil)))))

abbrev s_is_ring : Stmt := topS 8
abbrev n_is_ring : List Str := ["value"]
theorem sc_is_ring : FnScope n_is_ring ["value"] (defScope s_is_ring) := ⟨rfl, rfl, rfl, by decide +kernel, rfl, by decide +kernel, by decide +kernel⟩
set_option maxHeartbeats 1000000 in
theorem ok_is_ring {P : Program} {w : World} {K : PySem.W.Frag} {mg : Str → Option Value} {base : Heap} {f : Addr} {fd : FuncData} (F : Fun K "is_ring" "is_ring" s_is_ring f fd) (NB : NoB mg) (h_has_letters : HasF P w K mg base 1 "has_letters" ["value", "least", "most"] wf_has_letters) (c_MOST_RING_LETTERS : CI mg "MOST_RING_LETTERS" 12) :
    FnOk P w K mg base (L2.CX P w) 2 f fd ["value"] (spW (CC.of K mg) 1 wr_is_ring) :=
  def_ok F sc_is_ring fun cdv A outer s H E hr =>
    (qss_one (qs_ret (qe_f h_has_letters rfl ⟨rfl, rfl⟩ (hr.mono (by decide)) (by rfl) (passes_E (takes_of rfl rfl rfl rfl)) (qa_cons (qe_var (pv 0)) (qa_cons qe_int (qa_cons (qe_gI c_MOST_RING_LETTERS (by rfl)) qa_nil))))))

abbrev s_check_ring : Stmt := topS 9
abbrev n_check_ring : List Str := ["value", "name"]
theorem sc_check_ring : FnScope n_check_ring ["value", "name"] (defScope s_check_ring) := ⟨rfl, rfl, rfl, by decide +kernel, rfl, by decide +kernel, by decide +kernel⟩
set_option maxHeartbeats 1000000 in
theorem ok_check_ring {P : Program} {w : World} {K : PySem.W.Frag} {mg : Str → Option Value} {base : Heap} {f : Addr} {fd : FuncData} (F : Fun K "check_ring" "check_ring" s_check_ring f fd) (NB : NoB mg) (h_is_ring : HasF P w K mg base 2 "is_ring" ["value"] wf_is_ring) {A_BadValue : Addr} (z_BadValue : Xc P w K mg base "BadValue" "name" A_BadValue) :
    FnOk P w K mg base (L2.CX P w) 3 f fd ["value", "name"] (spW (CC.of K mg) 2 wr_check_ring) :=
  def_ok F sc_check_ring fun cdv A outer s H E hr =>
    (qss_one (qs_if (qt_not (qt_val (qe_f h_is_ring rfl ⟨rfl, rfl⟩ (hr.mono (by decide)) (by rfl) (passes_E (takes_of rfl rfl rfl rfl)) (qa_cons (qe_var (pv 0)) qa_nil)) rfl (by intro _; rfl))) (qss_one (qs_raise z_BadValue rfl rfl (takes_of rfl rfl rfl rfl) (hr.mono (by decide)) (qe_var (pv 1)))) qss_nil))

abbrev s_root_of : Stmt := topS 11
abbrev n_root_of : List Str := ["ring", "lengths", "many"]
theorem sc_root_of : FnScope n_root_of ["ring"] (defScope s_root_of) := ⟨rfl, rfl, rfl, by decide +kernel, rfl, by decide +kernel, by decide +kernel⟩
set_option maxHeartbeats 1000000 in
theorem ok_root_of {P : Program} {w : World} {K : PySem.W.Frag} {mg : Str → Option Value} {base : Heap} {f : Addr} {fd : FuncData} (F : Fun K "root_of" "root_of" s_root_of f fd) (NB : NoB mg)  :
    FnOk P w K mg base (L2.CX P w) 1 f fd ["ring"] (spW (CC.of K mg) 1 wr_root_of) :=
  def_ok F sc_root_of fun cdv A outer s H E hr =>
    (qss_cons (qs_setLc (i := 1) rfl sc_root_of.nd rfl rfl (sw_true rfl rfl rfl (by decide +kernel)) (qi_range2 (by rfl) (NB "range" (by decide)) (qa_cons qe_int (qa_cons (qe_op o2_add op_addP (qe_callB cp_len ca_lenR (by rfl) (NB "len" (by decide)) PySem.boot_len (qa_cons (qe_var (pv 0)) qa_nil)) qe_int) qa_nil))) (blkOk_by (own := [("many", 2)]) (N := n_root_of) (sc := defScope s_root_of) (by decide +kernel)) rfl (by decide) (fun _ _ _ _ _ => (qg_name (pg_name (i := 2) sc_root_of.nd rfl (Or.inl rfl)))) (fun _ _ _ _ _ => (qts_one (qt_cmp o2_eq (op_eqD hr.units) (qe_op o2_mod op_mod (qe_callB cp_len ca_lenR (by rfl) (NB "len" (by decide)) PySem.boot_len (qa_cons (qe_var (pv 0)) qa_nil)) (qe_var (pv 2))) qe_int (nomark _)))) (fun _ _ _ _ _ => (qe_var (pv 2))))
     (qss_one (qs_ret (qe_ix rfl (qe_lc rfl sc_root_of.nd (qi_row rfl (qe_var (pv 1))) (blkOk_by (own := [("many", 2)]) (N := n_root_of) (sc := defScope s_root_of) (by decide +kernel)) rfl (by decide) (fun _ _ _ _ _ => (qg_name (pg_name (i := 2) sc_root_of.nd rfl (Or.inl rfl)))) (fun _ _ _ _ _ => (qts_one (qt_cmp o2_eq (op_eqD hr.units) (qe_op o2_mulS op_mul_txt (qe_slice rfl (qe_var (pv 0)) qo_none (qo_some (qe_var (pv 2)))) (qe_op o2_div op_fdiv (qe_callB cp_len ca_lenR (by rfl) (NB "len" (by decide)) PySem.boot_len (qa_cons (qe_var (pv 0)) qa_nil)) (qe_var (pv 2)))) (qe_var (pv 0)) (nomark _)))) (fun _ _ _ _ _ => (qe_slice rfl (qe_var (pv 0)) qo_none (qo_some (qe_var (pv 2)))))) qe_int (fun _ _ => rfl)))))

abbrev s_root : Stmt := topS 12
abbrev n_root : List Str := ["ring", "part"]
theorem sc_root : FnScope n_root ["ring"] (defScope s_root) := ⟨rfl, rfl, rfl, by decide +kernel, rfl, by decide +kernel, by decide +kernel⟩
set_option maxHeartbeats 1000000 in
theorem ok_root {P : Program} {w : World} {K : PySem.W.Frag} {mg : Str → Option Value} {base : Heap} {f : Addr} {fd : FuncData} (F : Fun K "root" "root" s_root f fd) (NB : NoB mg) (h_check_ring : HasF P w K mg base 3 "check_ring" ["value", "name"] wf_check_ring) (h_root_of : HasF P w K mg base 1 "root_of" ["ring"] wf_root_of) :
    FnOk P w K mg base (L2.CX P w) 4 f fd ["ring"] (spW (CC.of K mg) 1 wr_root) :=
  def_ok F sc_root fun cdv A outer s H E hr =>
    (qss_cons (qs_expr (qe_f h_check_ring rfl ⟨rfl, rfl⟩ (hr.mono (by decide)) (by rfl) (passes_E (takes_of rfl rfl rfl rfl)) (qa_cons (qe_var (pv 0)) (qa_cons qe_str qa_nil))))
     (qss_cons (qs_set (i := 1) sc_root.nd rfl (.inl rfl) (qe_f h_root_of rfl ⟨rfl, rfl⟩ (hr.mono (by decide)) (by rfl) (passes_E (takes_of rfl rfl rfl rfl)) (qa_cons (qe_var (pv 0)) qa_nil)))
     (qss_one (qs_ret (qe_tup (qa_cons (qe_var (pv 1)) (qa_cons (qe_op o2_div op_fdiv (qe_callB cp_len ca_lenR (by rfl) (NB "len" (by decide)) PySem.boot_len (qa_cons (qe_var (pv 0)) qa_nil)) (qe_callB cp_len ca_lenR (by rfl) (NB "len" (by decide)) PySem.boot_len (qa_cons (qe_var (pv 1)) qa_nil))) qa_nil)))))))

abbrev s_turned : Stmt := topS 10
abbrev n_turned : List Str := ["ring", "many"]
theorem sc_turned : FnScope n_turned ["ring", "many"] (defScope s_turned) := ⟨rfl, rfl, rfl, by decide +kernel, rfl, by decide +kernel, by decide +kernel⟩
set_option maxHeartbeats 1000000 in
theorem ok_turned {P : Program} {w : World} {K : PySem.W.Frag} {mg : Str → Option Value} {base : Heap} {f : Addr} {fd : FuncData} (F : Fun K "turned" "turned" s_turned f fd) (NB : NoB mg)  :
    FnOk P w K mg base (L2.CX P w) 1 f fd ["ring", "many"] (spW (CC.of K mg) 2 wr_turned) :=
  def_ok F sc_turned fun cdv A outer s H E hr =>
    (qss_one (qs_ret (qe_op o2_add op_addP (qe_slice rfl (qe_var (pv 0)) (qo_some (qe_var (pv 1))) qo_none) (qe_slice rfl (qe_var (pv 0)) qo_none (qo_some (qe_var (pv 1)))))))

abbrev s_least_turned : Stmt := topS 13
abbrev n_least_turned : List Str := ["ring", "many"]
theorem sc_least_turned : FnScope n_least_turned ["ring"] (defScope s_least_turned) := ⟨rfl, rfl, rfl, by decide +kernel, rfl, by decide +kernel, by decide +kernel⟩
set_option maxHeartbeats 1000000 in
theorem ok_least_turned {P : Program} {w : World} {K : PySem.W.Frag} {mg : Str → Option Value} {base : Heap} {f : Addr} {fd : FuncData} (F : Fun K "least_turned" "least_turned" s_least_turned f fd) (NB : NoB mg) (h_turned : HasF P w K mg base 1 "turned" ["ring", "many"] wf_turned) :
    FnOk P w K mg base (L2.CX P w) 2 f fd ["ring"] (spW (CC.of K mg) 1 wr_least_turned) :=
  def_ok F sc_least_turned fun cdv A outer s H E hr =>
    (qss_one (qs_ret (qe_callB cp_minD (cr_minD rfl (u65 hr)) (by rfl) (NB "min" (by decide)) (by decide +kernel) (qa_cons (qe_lc rfl sc_least_turned.nd (qi_range1 (by rfl) (NB "range" (by decide)) (qa_cons (qe_callB cp_len ca_lenR (by rfl) (NB "len" (by decide)) PySem.boot_len (qa_cons (qe_var (pv 0)) qa_nil)) qa_nil)) (blkOk_by (own := [("many", 1)]) (N := n_least_turned) (sc := defScope s_least_turned) (by decide +kernel)) rfl (by decide) (fun _ _ _ _ _ => (qg_name (pg_name (i := 1) sc_least_turned.nd rfl (Or.inl rfl)))) (fun _ _ _ _ _ => qts_nil) (fun _ _ _ _ _ => (qe_tup (qa_cons (qe_f h_turned rfl ⟨rfl, rfl⟩ (hr.mono (by decide)) (by rfl) passes_no (qa_cons (qe_var (pv 0)) (qa_cons (qe_var (pv 1)) qa_nil))) (qa_cons (qe_var (pv 1)) qa_nil))))) qa_nil))))

abbrev s_least_rotation : Stmt := topS 14
abbrev n_least_rotation : List Str := ["ring"]
theorem sc_least_rotation : FnScope n_least_rotation ["ring"] (defScope s_least_rotation) := ⟨rfl, rfl, rfl, by decide +kernel, rfl, by decide +kernel, by decide +kernel⟩
set_option maxHeartbeats 1000000 in
theorem ok_least_rotation {P : Program} {w : World} {K : PySem.W.Frag} {mg : Str → Option Value} {base : Heap} {f : Addr} {fd : FuncData} (F : Fun K "least_rotation" "least_rotation" s_least_rotation f fd) (NB : NoB mg) (h_check_ring : HasF P w K mg base 3 "check_ring" ["value", "name"] wf_check_ring) (h_least_turned : HasF P w K mg base 2 "least_turned" ["ring"] wf_least_turned) :
    FnOk P w K mg base (L2.CX P w) 4 f fd ["ring"] (spW (CC.of K mg) 1 wr_least_rotation) :=
  def_ok F sc_least_rotation fun cdv A outer s H E hr =>
    (qss_cons (qs_expr (qe_f h_check_ring rfl ⟨rfl, rfl⟩ (hr.mono (by decide)) (by rfl) (passes_E (takes_of rfl rfl rfl rfl)) (qa_cons (qe_var (pv 0)) (qa_cons qe_str qa_nil))))
     (qss_one (qs_ret (qe_f h_least_turned rfl ⟨rfl, rfl⟩ (hr.mono (by decide)) (by rfl) (passes_E (takes_of rfl rfl rfl rfl)) (qa_cons (qe_var (pv 0)) qa_nil)))))

abbrev s_offset : Stmt := topS 15
abbrev n_offset : List Str := ["first", "second", "many"]
theorem sc_offset : FnScope n_offset ["first", "second"] (defScope s_offset) := ⟨rfl, rfl, rfl, by decide +kernel, rfl, by decide +kernel, by decide +kernel⟩
set_option maxHeartbeats 1000000 in
theorem ok_offset {P : Program} {w : World} {K : PySem.W.Frag} {mg : Str → Option Value} {base : Heap} {f : Addr} {fd : FuncData} (F : Fun K "offset" "offset" s_offset f fd) (NB : NoB mg) (h_check_ring : HasF P w K mg base 3 "check_ring" ["value", "name"] wf_check_ring) (h_turned : HasF P w K mg base 1 "turned" ["ring", "many"] wf_turned) :
    FnOk P w K mg base (L2.CX P w) 4 f fd ["first", "second"] (spW (CC.of K mg) 2 wr_offset) :=
  def_ok F sc_offset fun cdv A outer s H E hr =>
    (qss_cons (qs_expr (qe_f h_check_ring rfl ⟨rfl, rfl⟩ (hr.mono (by decide)) (by rfl) (passes_E (takes_of rfl rfl rfl rfl)) (qa_cons (qe_var (pv 0)) (qa_cons qe_str qa_nil))))
     (qss_cons (qs_expr (qe_f h_check_ring rfl ⟨rfl, rfl⟩ (hr.mono (by decide)) (by rfl) (passes_E (takes_of rfl rfl rfl rfl)) (qa_cons (qe_var (pv 1)) (qa_cons qe_str qa_nil))))
     (qss_cons (qs_for (passes_of rfl) rfl (qi_range1 (by rfl) (NB "range" (by decide)) (qa_cons (qe_callB cp_len ca_lenR (by rfl) (NB "len" (by decide)) PySem.boot_len (qa_cons (qe_var (pv 0)) qa_nil)) qa_nil)) (qg_name (pg_name (i := 2) sc_offset.nd rfl (Or.inl rfl))) (qss_one (qs_if (qt_cmp o2_eq (op_eqD hr.units) (qe_f h_turned rfl ⟨rfl, rfl⟩ (hr.mono (by decide)) (by rfl) (passes_E (takes_of rfl rfl rfl rfl)) (qa_cons (qe_var (pv 0)) (qa_cons (qe_var (pv 2)) qa_nil))) (qe_var (pv 1)) (nomark _)) (qss_one (qs_ret (qe_var (pv 2)))) qss_nil)))
     (qss_one (qs_ret qe_non)))))

abbrev s_law : Stmt := topS 23
abbrev n_law : List Str := ["script", "stream", "letters", "short", "rings", "turned_v", "ring", "powers", "size", "many", "turns", "least", "other", "due"]
theorem sc_law : FnScope n_law ["script"] (defScope s_law) := ⟨rfl, rfl, rfl, by decide +kernel, rfl, by decide +kernel, by decide +kernel⟩
set_option maxHeartbeats 4000000 in
theorem ok_law {P : Program} {w : World} {K : PySem.W.Frag} {mg : Str → Option Value} {base : Heap} {f fs : Addr} {fd fds : FuncData} (F : Fun K "law" "law" s_law f fd) (NB : NoB mg) (GS : FnOk P w K mg base CX0 1 fs fds ["script"] (spStream K)) (kS : PySem.W.keepIn K (.ref fs) = true) (bS : Binds K fds ["script"] []) (gS : mg "_law_stream" = some (.ref fs)) (h__law_string : HasF P w K mg base 2 "_law_string" ["stream", "letters", "least", "most"] wf__law_string) (h__law_next : HasF P w K mg base 1 "_law_next" ["stream", "many"] wf__law_next) (h__law_turns : HasF P w K mg base 1 "_law_turns" ["ring"] wf__law_turns) (h__law_equal : HasF P w K mg base 5 "_law_equal" ["actual", "due"] wf__law_equal) (h_root : HasF P w K mg base 4 "root" ["ring"] wf_root) (h_least_rotation : HasF P w K mg base 4 "least_rotation" ["ring"] wf_least_rotation) (h_offset : HasF P w K mg base 4 "offset" ["first", "second"] wf_offset) (hw : LawOk n_law.length wb_law) :
    FnOk P w K mg base (L2.CX P w) 6 f fd ["script"] (spLaw K) :=
  law_ok F sc_law (by decide) (fun cdv A outer s H E hr => ⟨_, _, _, rfl, ps_set (i := 1) sc_law.nd rfl (.inl rfl) (pe_call GS (hr.mono (by decide)) (by rfl) gS kS bS .nil pass0 (pa_cons (pv 0) pa_nil)), fun σ H Q h => h,
    (qss_cons (qs_set (i := 2) sc_law.nd rfl (.inl rfl) (qe_ix rfl (qe_lst (qa_cons qe_str (qa_cons qe_str (qa_cons qe_str (qa_cons qe_str qa_nil))))) (qe_f h__law_next rfl ⟨rfl, rfl⟩ (hr.mono (by decide)) (by rfl) (passes_E (takes_of rfl rfl rfl rfl)) (qa_cons (qe_var (pv 1)) (qa_cons qe_int qa_nil))) (fun _ _ => rfl)))
     (qss_cons (qs_set (i := 3) sc_law.nd rfl (.inl rfl) (qe_f h__law_string rfl ⟨rfl, rfl⟩ (hr.mono (by decide)) (by rfl) (passes_E (takes_of rfl rfl rfl rfl)) (qa_cons (qe_var (pv 1)) (qa_cons (qe_var (pv 2)) (qa_cons qe_int (qa_cons qe_int qa_nil))))))
     (qss_cons (qs_set (i := 4) sc_law.nd rfl (.inl rfl) (qe_lst (qa_cons (qe_f h__law_string rfl ⟨rfl, rfl⟩ (hr.mono (by decide)) (by rfl) (passes_E (takes_of rfl rfl rfl rfl)) (qa_cons (qe_var (pv 1)) (qa_cons (qe_var (pv 2)) (qa_cons qe_int (qa_cons qe_int qa_nil))))) (qa_cons (qe_op o2_mulS op_mul_txt (qe_var (pv 3)) (qe_op o2_add op_addP qe_int (qe_f h__law_next rfl ⟨rfl, rfl⟩ (hr.mono (by decide)) (by rfl) (passes_E (takes_of rfl rfl rfl rfl)) (qa_cons (qe_var (pv 1)) (qa_cons qe_int qa_nil))))) (qa_cons (qe_op o2_mulS op_mul_txt (qe_revS (qe_var (pv 3))) (qe_op o2_add op_addP qe_int (qe_f h__law_next rfl ⟨rfl, rfl⟩ (hr.mono (by decide)) (by rfl) (passes_E (takes_of rfl rfl rfl rfl)) (qa_cons (qe_var (pv 1)) (qa_cons qe_int qa_nil))))) qa_nil)))))
     (qss_cons (qs_set (i := 5) sc_law.nd rfl (.inl rfl) (qe_op o2_add op_addP (qe_slice rfl (qe_ix rfl (qe_var (pv 4)) qe_int (fun _ _ => rfl)) (qo_some qe_int) qo_none) (qe_slice rfl (qe_ix rfl (qe_var (pv 4)) qe_int (fun _ _ => rfl)) qo_none (qo_some qe_int))))
     (qss_cons (qs_set (i := 4) sc_law.nd rfl (.inl rfl) (qe_op o2_add op_addP (qe_var (pv 4)) (qe_lst (qa_cons (qe_var (pv 5)) (qa_cons (qe_revS (qe_var (pv 5))) qa_nil)))))
     (qss_cons (qs_for (passes_of rfl) rfl (qi_row rfl (qe_var (pv 4))) (qg_name (pg_name (i := 6) sc_law.nd rfl (Or.inr rfl))) (qss_cons (qs_set (i := 7) sc_law.nd rfl (.inl rfl) (qe_lst qa_nil))
       (qss_cons (qs_for (passes_of rfl) rfl (qi_range2 (by rfl) (NB "range" (by decide)) (qa_cons qe_int (qa_cons (qe_op o2_add op_addP (qe_callB cp_len ca_lenR (by rfl) (NB "len" (by decide)) PySem.boot_len (qa_cons (qe_var (pv 6)) qa_nil)) qe_int) qa_nil))) (qg_name (pg_name (i := 8) sc_law.nd rfl (Or.inr rfl))) (qss_one (qs_set (i := 7) sc_law.nd rfl (.inl rfl) (qe_op o2_add op_addP (qe_var (pv 7)) (qe_lc rfl sc_law.nd (qi_range2 (by rfl) (NB "range" (by decide)) (qa_cons qe_int (qa_cons (qe_op o2_add op_addP (qe_callB cp_len ca_lenR (by rfl) (NB "len" (by decide)) PySem.boot_len (qa_cons (qe_var (pv 6)) qa_nil)) qe_int) qa_nil))) (blkOk_by (own := [("many", 9)]) (N := n_law) (sc := defScope s_law) (by decide +kernel)) rfl (by decide) (fun _ _ _ _ _ => (qg_name (pg_name (i := 9) sc_law.nd rfl (Or.inl rfl)))) (fun _ _ _ _ _ => (qts_one (qt_cmp o2_eq (op_eqD hr.units) (qe_op o2_mulS op_mul_txt (qe_slice rfl (qe_var (pv 6)) qo_none (qo_some (qe_var (pv 8)))) (qe_var (pv 9))) (qe_var (pv 6)) (nomark _)))) (fun _ _ _ _ _ => (qe_tup (qa_cons (qe_slice rfl (qe_var (pv 6)) qo_none (qo_some (qe_var (pv 8)))) (qa_cons (qe_var (pv 9)) qa_nil)))))))))
       (qss_cons (qs_set (i := 10) sc_law.nd rfl (.inl rfl) (qe_f h__law_turns rfl ⟨rfl, rfl⟩ (hr.mono (by decide)) (by rfl) (passes_E (takes_of rfl rfl rfl rfl)) (qa_cons (qe_var (pv 6)) qa_nil)))
       (qss_cons (qs_set (i := 11) sc_law.nd rfl (.inl rfl) (qe_callB cp_minS (cr_minS rfl) (by rfl) (NB "min" (by decide)) (by decide +kernel) (qa_cons (qe_var (pv 10)) qa_nil)))
       (qss_cons (qs_if (qt_not (qt_val (qe_f h__law_equal rfl ⟨rfl, rfl⟩ (hr.mono (by decide)) (by rfl) (passes_E (takes_of rfl rfl rfl rfl)) (qa_cons (qe_lst (qa_cons (qe_f h_root rfl ⟨rfl, rfl⟩ (hr.mono (by decide)) (by rfl) (passes_E (takes_of rfl rfl rfl rfl)) (qa_cons (qe_var (pv 6)) qa_nil)) (qa_cons (qe_f h_least_rotation rfl ⟨rfl, rfl⟩ (hr.mono (by decide)) (by rfl) (passes_E (takes_of rfl rfl rfl rfl)) (qa_cons (qe_var (pv 6)) qa_nil)) qa_nil))) (qa_cons (qe_lst (qa_cons (qe_ix rfl (qe_var (pv 7)) qe_int (fun _ _ => rfl)) (qa_cons (qe_tup (qa_cons (qe_var (pv 11)) (qa_cons (qe_indexL rfl (u65 hr) (qe_var (pv 10)) (qe_var (pv 11))) qa_nil))) qa_nil))) qa_nil))) rfl (by intro _; rfl))) (qss_one (qs_ret qe_bl)) qss_nil)
       (qss_one (qs_for (passes_of rfl) rfl (qi_row rfl (qe_var (pv 4))) (qg_name (pg_name (i := 12) sc_law.nd rfl (Or.inl rfl))) (qss_cons (qs_set (i := 13) sc_law.nd rfl (.inl rfl) qe_non)
         (qss_cons (qs_if (qt_cmp o2_in (op_inP (u65 hr)) (qe_var (pv 12)) (qe_var (pv 10)) (by rfl)) (qss_one (qs_set (i := 13) sc_law.nd rfl (.inl rfl) (qe_indexL rfl (u65 hr) (qe_var (pv 10)) (qe_var (pv 12))))) qss_nil)
         (qss_cons (qs_if (qt_not (qt_val (qe_f h__law_equal rfl ⟨rfl, rfl⟩ (hr.mono (by decide)) (by rfl) (passes_E (takes_of rfl rfl rfl rfl)) (qa_cons (qe_f h_offset rfl ⟨rfl, rfl⟩ (hr.mono (by decide)) (by rfl) (passes_E (takes_of rfl rfl rfl rfl)) (qa_cons (qe_var (pv 6)) (qa_cons (qe_var (pv 12)) qa_nil))) (qa_cons (qe_var (pv 13)) qa_nil))) rfl (by intro _; rfl))) (qss_one (qs_ret qe_bl)) qss_nil)
         (qss_one (qs_if (qt_cmp o2_ne (op_neD hr.units) (qe_cmp o2_eq (op_eqD hr.units) (qe_ix rfl (qe_f h_least_rotation rfl ⟨rfl, rfl⟩ (hr.mono (by decide)) (by rfl) (passes_E (takes_of rfl rfl rfl rfl)) (qa_cons (qe_var (pv 6)) qa_nil)) qe_int (fun _ _ => rfl)) (qe_ix rfl (qe_f h_least_rotation rfl ⟨rfl, rfl⟩ (hr.mono (by decide)) (by rfl) (passes_E (takes_of rfl rfl rfl rfl)) (qa_cons (qe_var (pv 12)) qa_nil)) qe_int (fun _ _ => rfl)) (nomark _)) (qe_cmp o2_notN op_notN (qe_var (pv 13)) qe_non (nomark _)) (nomark _)) (qss_one (qs_ret qe_bl)) qss_nil)))))))))))))
     (qss_one (qs_ret qe_bl))))))))⟩) hw

/-! ### what the top has left; the last theorem -/
set_option maxHeartbeats 0 in
theorem all_mk {l : PySem.W.OpenLaw} {w : World} {K : PySem.W.Frag} {h : Heap} {mg : Str → Option Value} {fa : Addr} (X : K.In h) (G : h.Ns mainGlobals mg) (hfa : mg "law" = some (.ref fa))
    {f0 : Addr} {od0 an0 : Option Addr} {sl0 : Array (Option Value)} {oc0 kV0 dc0 pm0 cd0 ct0 : Value}
    {f1 : Addr} {od1 an1 : Option Addr} {sl1 : Array (Option Value)} {oc1 kV1 dc1 pm1 cd1 ct1 : Value}
    {f2 : Addr} {od2 an2 : Option Addr} {sl2 : Array (Option Value)} {oc2 kV2 dc2 pm2 cd2 ct2 : Value}
    {f3 : Addr} {od3 an3 : Option Addr} {sl3 : Array (Option Value)} {oc3 kV3 dc3 pm3 cd3 ct3 : Value}
    {f4 : Addr} {od4 an4 : Option Addr} {sl4 : Array (Option Value)} {oc4 kV4 dc4 pm4 cd4 ct4 : Value}
    {f5 : Addr} {od5 an5 : Option Addr} {sl5 : Array (Option Value)} {oc5 kV5 dc5 pm5 cd5 ct5 : Value}
    {f6 : Addr} {od6 an6 : Option Addr} {sl6 : Array (Option Value)} {oc6 kV6 dc6 pm6 cd6 ct6 : Value}
    {f7 : Addr} {od7 an7 : Option Addr} {sl7 : Array (Option Value)} {oc7 kV7 dc7 pm7 cd7 ct7 : Value}
    {f8 : Addr} {od8 an8 : Option Addr} {sl8 : Array (Option Value)} {oc8 kV8 dc8 pm8 cd8 ct8 : Value}
    {f9 : Addr} {od9 an9 : Option Addr} {sl9 : Array (Option Value)} {oc9 kV9 dc9 pm9 cd9 ct9 : Value}
    {f10 : Addr} {od10 an10 : Option Addr} {sl10 : Array (Option Value)} {oc10 kV10 dc10 pm10 cd10 ct10 : Value}
    {f11 : Addr} {od11 an11 : Option Addr} {sl11 : Array (Option Value)} {oc11 kV11 dc11 pm11 cd11 ct11 : Value}
    {f12 : Addr} {od12 an12 : Option Addr} {sl12 : Array (Option Value)} {oc12 kV12 dc12 pm12 cd12 ct12 : Value}
    {f13 : Addr} {od13 an13 : Option Addr} {sl13 : Array (Option Value)} {oc13 kV13 dc13 pm13 cd13 ct13 : Value}
    {f14 : Addr} {od14 an14 : Option Addr} {sl14 : Array (Option Value)} {oc14 kV14 dc14 pm14 cd14 ct14 : Value}
    {f15 : Addr} {od15 an15 : Option Addr} {sl15 : Array (Option Value)} {oc15 kV15 dc15 pm15 cd15 ct15 : Value}
    {t0 : Tok}
    {t1 : Tok}
    {nmx0 qx0 : Str} {Cx0 Nx0 CEx0 ix0 : Addr} {bsx0 : List Value} {snx0 : List Str} {subx0 : List Value} {abx0 : Bool} {colx0 : Option Bool} {ddx0 : Option Addr} {max0 mbx0 mcx0 mdx0 mex0 : Option Value} {odix0 anix0 : Option Addr} {slix0 : Array (Option Value)} {ocix0 kVix0 dcix0 pmix0 cdix0 ctix0 : Value}
    (a0 : PySem.W.nsIn K mainGlobals "_law_stream" = some (some (.ref f0))) (l0 : K.lookup f0 = some ⟨oc0, od0, .func (PySem.W.fnOf "_law_stream" "_law_stream" (defArgs sStream) (defBody sStream) (defScope sStream) .none kV0 dc0 pm0 an0 cd0 ct0), sl0⟩) (c0 : PySem.W.codeIn K cd0 "_law_stream" = true) (k0 : PySem.W.keepIn K (.ref f0) = true)
    (a1 : PySem.W.nsIn K mainGlobals "_law_next" = some (some (.ref f1))) (l1 : K.lookup f1 = some ⟨oc1, od1, .func (PySem.W.fnOf "_law_next" "_law_next" (defArgs sNext) (defBody sNext) (defScope sNext) .none kV1 dc1 pm1 an1 cd1 ct1), sl1⟩) (c1 : PySem.W.codeIn K cd1 "_law_next" = true) (k1 : PySem.W.keepIn K (.ref f1) = true)
    (a2 : PySem.W.nsIn K mainGlobals "_law_string" = some (some (.ref f2))) (l2 : K.lookup f2 = some ⟨oc2, od2, .func (PySem.W.fnOf "_law_string" "_law_string" (defArgs s__law_string) (defBody s__law_string) (defScope s__law_string) .none kV2 dc2 pm2 an2 cd2 ct2), sl2⟩) (c2 : PySem.W.codeIn K cd2 "_law_string" = true) (k2 : PySem.W.keepIn K (.ref f2) = true)
    (a3 : PySem.W.nsIn K mainGlobals "_law_turns" = some (some (.ref f3))) (l3 : K.lookup f3 = some ⟨oc3, od3, .func (PySem.W.fnOf "_law_turns" "_law_turns" (defArgs s__law_turns) (defBody s__law_turns) (defScope s__law_turns) .none kV3 dc3 pm3 an3 cd3 ct3), sl3⟩) (c3 : PySem.W.codeIn K cd3 "_law_turns" = true) (k3 : PySem.W.keepIn K (.ref f3) = true)
    (a4 : PySem.W.nsIn K mainGlobals "_law_is_integer" = some (some (.ref f4))) (l4 : K.lookup f4 = some ⟨oc4, od4, .func (PySem.W.fnOf "_law_is_integer" "_law_is_integer" (defArgs sIsInt) (defBody sIsInt) (defScope sIsInt) .none kV4 dc4 pm4 an4 cd4 ct4), sl4⟩) (c4 : PySem.W.codeIn K cd4 "_law_is_integer" = true) (k4 : PySem.W.keepIn K (.ref f4) = true)
    (a5 : PySem.W.nsIn K mainGlobals "_law_equal" = some (some (.ref f5))) (l5 : K.lookup f5 = some ⟨oc5, od5, .func (PySem.W.fnOf "_law_equal" "_law_equal" (defArgs sEqual) (defBody sEqual) (defScope sEqual) .none kV5 dc5 pm5 an5 cd5 ct5), sl5⟩) (c5 : PySem.W.codeIn K cd5 "_law_equal" = true) (k5 : PySem.W.keepIn K (.ref f5) = true)
    (a6 : PySem.W.nsIn K mainGlobals "has_letters" = some (some (.ref f6))) (l6 : K.lookup f6 = some ⟨oc6, od6, .func (PySem.W.fnOf "has_letters" "has_letters" (defArgs s_has_letters) (defBody s_has_letters) (defScope s_has_letters) .none kV6 dc6 pm6 an6 cd6 ct6), sl6⟩) (c6 : PySem.W.codeIn K cd6 "has_letters" = true) (k6 : PySem.W.keepIn K (.ref f6) = true)
    (a7 : PySem.W.nsIn K mainGlobals "is_ring" = some (some (.ref f7))) (l7 : K.lookup f7 = some ⟨oc7, od7, .func (PySem.W.fnOf "is_ring" "is_ring" (defArgs s_is_ring) (defBody s_is_ring) (defScope s_is_ring) .none kV7 dc7 pm7 an7 cd7 ct7), sl7⟩) (c7 : PySem.W.codeIn K cd7 "is_ring" = true) (k7 : PySem.W.keepIn K (.ref f7) = true)
    (a8 : PySem.W.nsIn K mainGlobals "check_ring" = some (some (.ref f8))) (l8 : K.lookup f8 = some ⟨oc8, od8, .func (PySem.W.fnOf "check_ring" "check_ring" (defArgs s_check_ring) (defBody s_check_ring) (defScope s_check_ring) .none kV8 dc8 pm8 an8 cd8 ct8), sl8⟩) (c8 : PySem.W.codeIn K cd8 "check_ring" = true) (k8 : PySem.W.keepIn K (.ref f8) = true)
    (a9 : PySem.W.nsIn K mainGlobals "root_of" = some (some (.ref f9))) (l9 : K.lookup f9 = some ⟨oc9, od9, .func (PySem.W.fnOf "root_of" "root_of" (defArgs s_root_of) (defBody s_root_of) (defScope s_root_of) .none kV9 dc9 pm9 an9 cd9 ct9), sl9⟩) (c9 : PySem.W.codeIn K cd9 "root_of" = true) (k9 : PySem.W.keepIn K (.ref f9) = true)
    (a10 : PySem.W.nsIn K mainGlobals "root" = some (some (.ref f10))) (l10 : K.lookup f10 = some ⟨oc10, od10, .func (PySem.W.fnOf "root" "root" (defArgs s_root) (defBody s_root) (defScope s_root) .none kV10 dc10 pm10 an10 cd10 ct10), sl10⟩) (c10 : PySem.W.codeIn K cd10 "root" = true) (k10 : PySem.W.keepIn K (.ref f10) = true)
    (a11 : PySem.W.nsIn K mainGlobals "turned" = some (some (.ref f11))) (l11 : K.lookup f11 = some ⟨oc11, od11, .func (PySem.W.fnOf "turned" "turned" (defArgs s_turned) (defBody s_turned) (defScope s_turned) .none kV11 dc11 pm11 an11 cd11 ct11), sl11⟩) (c11 : PySem.W.codeIn K cd11 "turned" = true) (k11 : PySem.W.keepIn K (.ref f11) = true)
    (a12 : PySem.W.nsIn K mainGlobals "least_turned" = some (some (.ref f12))) (l12 : K.lookup f12 = some ⟨oc12, od12, .func (PySem.W.fnOf "least_turned" "least_turned" (defArgs s_least_turned) (defBody s_least_turned) (defScope s_least_turned) .none kV12 dc12 pm12 an12 cd12 ct12), sl12⟩) (c12 : PySem.W.codeIn K cd12 "least_turned" = true) (k12 : PySem.W.keepIn K (.ref f12) = true)
    (a13 : PySem.W.nsIn K mainGlobals "least_rotation" = some (some (.ref f13))) (l13 : K.lookup f13 = some ⟨oc13, od13, .func (PySem.W.fnOf "least_rotation" "least_rotation" (defArgs s_least_rotation) (defBody s_least_rotation) (defScope s_least_rotation) .none kV13 dc13 pm13 an13 cd13 ct13), sl13⟩) (c13 : PySem.W.codeIn K cd13 "least_rotation" = true) (k13 : PySem.W.keepIn K (.ref f13) = true)
    (a14 : PySem.W.nsIn K mainGlobals "offset" = some (some (.ref f14))) (l14 : K.lookup f14 = some ⟨oc14, od14, .func (PySem.W.fnOf "offset" "offset" (defArgs s_offset) (defBody s_offset) (defScope s_offset) .none kV14 dc14 pm14 an14 cd14 ct14), sl14⟩) (c14 : PySem.W.codeIn K cd14 "offset" = true) (k14 : PySem.W.keepIn K (.ref f14) = true)
    (a15 : PySem.W.nsIn K mainGlobals "law" = some (some (.ref f15))) (l15 : K.lookup f15 = some ⟨oc15, od15, .func (PySem.W.fnOf "law" "law" (defArgs s_law) (defBody s_law) (defScope s_law) .none kV15 dc15 pm15 an15 cd15 ct15), sl15⟩) (c15 : PySem.W.codeIn K cd15 "law" = true) (k15 : PySem.W.keepIn K (.ref f15) = true)
    (yy0 : PySem.W.nsIn K mainGlobals "MOST_RING_LETTERS" = some (some (.int 12 t0)))
    (yy1 : PySem.W.nsIn K mainGlobals "LETTERS" = some (some (.str "abc" t1)))
    (z_isinstance : PySem.W.nsIn K mainGlobals "isinstance" = some none)
    (z_str : PySem.W.nsIn K mainGlobals "str" = some none)
    (z_len : PySem.W.nsIn K mainGlobals "len" = some none)
    (z_all : PySem.W.nsIn K mainGlobals "all" = some none)
    (z_any : PySem.W.nsIn K mainGlobals "any" = some none)
    (z_tuple : PySem.W.nsIn K mainGlobals "tuple" = some none)
    (z_set : PySem.W.nsIn K mainGlobals "set" = some none)
    (z_list : PySem.W.nsIn K mainGlobals "list" = some none)
    (z_abs : PySem.W.nsIn K mainGlobals "abs" = some none)
    (z_int : PySem.W.nsIn K mainGlobals "int" = some none)
    (z_bool : PySem.W.nsIn K mainGlobals "bool" = some none)
    (z_range : PySem.W.nsIn K mainGlobals "range" = some none)
    (z_sum : PySem.W.nsIn K mainGlobals "sum" = some none)
    (z_reversed : PySem.W.nsIn K mainGlobals "reversed" = some none)
    (z_zip : PySem.W.nsIn K mainGlobals "zip" = some none)
    (z_enumerate : PySem.W.nsIn K mainGlobals "enumerate" = some none)
    (z_min : PySem.W.nsIn K mainGlobals "min" = some none)
    (z_max : PySem.W.nsIn K mainGlobals "max" = some none)
    (z_sorted : PySem.W.nsIn K mainGlobals "sorted" = some none)
    (gxx0 : PySem.W.nsIn K mainGlobals "BadValue" = some (some (.ref Cx0)))
    (xlx0 : K.lookup Cx0 = some (excClassObj nmx0 qx0 Cx0 Nx0 bsx0 [.ref CEx0, .type "ValueError", .type "Exception", .type "BaseException", .type "object"] true snx0 subx0 abx0 colx0 ddx0 max0 mbx0 mcx0 mdx0 mex0 "ValueError.__new__"))
    (sax0 : PySem.W.findIn K (.ref Cx0) "__setattr__" = some (some (.builtin "object.__setattr__")))
    (gax0 : PySem.W.findIn K (.ref Cx0) "__getattribute__" = some (some (.builtin "BaseException.__getattribute__")))
    (ggx0 : PySem.W.findIn K (.ref Cx0) "__getattr__" = some none)
    (nfx0 : PySem.W.findIn K (.ref Cx0) "name" = some none)
    (iax0 : PySem.W.findIn K (.ref Cx0) "__init__" = some (some (.ref ix0)))
    (itx0 : PySem.W.typeIn K (.ref ix0) = some (.type "function"))
    (ilx0 : K.lookup ix0 = some ⟨ocix0, odix0, .func (PySem.W.fnOf "__init__" "BadValue.__init__" (defArgs sBadValueInit) (defBody sBadValueInit) (defScope sBadValueInit) .none kVix0 dcix0 pmix0 anix0 cdix0 ctix0), slix0⟩)
    (icx0 : PySem.W.codeIn K cdix0 "BadValue.__init__" = true)
    (ikx0 : PySem.W.keepIn K (.ref ix0) = true)
    (kCx0 : PySem.W.keepIn K (.ref Cx0) = true)
    (eCx0 : PySem.W.subIn K (.ref Cx0) (.type "BaseException") = some true)
    (tCx0 : PySem.W.typeIn K (.ref Cx0) = some (.type "type"))
    (hCx0 : PySem.W.hasDictIn K Cx0 = true)
    (iCx0 : PySem.W.isClsIn K Cx0 = true)
    (sCx0 : PySem.W.subIn K (.ref Cx0) (.ref Cx0) = some true) :
    ∃ fd : FuncData, (∀ (s : Shared) (v : Value), BindsTo s fd ⟨[v], []⟩ [("script", v)]) ∧ ∀ base : Heap, K.In base → base.Ns mainGlobals mg → FnOk l.prog w K mg base (L2.CX l.prog w) 6 fa fd ["script"] (spLaw K) := by
  have e := hfa.symm.trans (PySem.W.mg_of X G a15)
  cases e
  have F0 := fun_mk (st := sStream) l0 c0 k0
  have b0 := F0.binds (ps := ["script"]) fun _ _ _ _ _ _ us hl => match us, hl with | [_], _ => rfl
  have m0 := PySem.W.mg_of X G a0
  have F1 := fun_mk (st := sNext) l1 c1 k1
  have b1 := F1.binds (ps := ["stream", "many"]) fun _ _ _ _ _ _ us hl => match us, hl with | [_, _], _ => rfl
  have m1 := PySem.W.mg_of X G a1
  have F2 := fun_mk (st := s__law_string) l2 c2 k2
  have b2 := F2.binds (ps := ["stream", "letters", "least", "most"]) fun _ _ _ _ _ _ us hl => match us, hl with | [_, _, _, _], _ => rfl
  have m2 := PySem.W.mg_of X G a2
  have F3 := fun_mk (st := s__law_turns) l3 c3 k3
  have b3 := F3.binds (ps := ["ring"]) fun _ _ _ _ _ _ us hl => match us, hl with | [_], _ => rfl
  have m3 := PySem.W.mg_of X G a3
  have F4 := fun_mk (st := sIsInt) l4 c4 k4
  have b4 := F4.binds (ps := ["actual"]) fun _ _ _ _ _ _ us hl => match us, hl with | [_], _ => rfl
  have m4 := PySem.W.mg_of X G a4
  have F5 := fun_mk (st := sEqual) l5 c5 k5
  have b5 := F5.binds (ps := ["actual", "due"]) fun _ _ _ _ _ _ us hl => match us, hl with | [_, _], _ => rfl
  have m5 := PySem.W.mg_of X G a5
  have F6 := fun_mk (st := s_has_letters) l6 c6 k6
  have b6 := F6.binds (ps := ["value", "least", "most"]) fun _ _ _ _ _ _ us hl => match us, hl with | [_, _, _], _ => rfl
  have m6 := PySem.W.mg_of X G a6
  have F7 := fun_mk (st := s_is_ring) l7 c7 k7
  have b7 := F7.binds (ps := ["value"]) fun _ _ _ _ _ _ us hl => match us, hl with | [_], _ => rfl
  have m7 := PySem.W.mg_of X G a7
  have F8 := fun_mk (st := s_check_ring) l8 c8 k8
  have b8 := F8.binds (ps := ["value", "name"]) fun _ _ _ _ _ _ us hl => match us, hl with | [_, _], _ => rfl
  have m8 := PySem.W.mg_of X G a8
  have F9 := fun_mk (st := s_root_of) l9 c9 k9
  have b9 := F9.binds (ps := ["ring"]) fun _ _ _ _ _ _ us hl => match us, hl with | [_], _ => rfl
  have m9 := PySem.W.mg_of X G a9
  have F10 := fun_mk (st := s_root) l10 c10 k10
  have b10 := F10.binds (ps := ["ring"]) fun _ _ _ _ _ _ us hl => match us, hl with | [_], _ => rfl
  have m10 := PySem.W.mg_of X G a10
  have F11 := fun_mk (st := s_turned) l11 c11 k11
  have b11 := F11.binds (ps := ["ring", "many"]) fun _ _ _ _ _ _ us hl => match us, hl with | [_, _], _ => rfl
  have m11 := PySem.W.mg_of X G a11
  have F12 := fun_mk (st := s_least_turned) l12 c12 k12
  have b12 := F12.binds (ps := ["ring"]) fun _ _ _ _ _ _ us hl => match us, hl with | [_], _ => rfl
  have m12 := PySem.W.mg_of X G a12
  have F13 := fun_mk (st := s_least_rotation) l13 c13 k13
  have b13 := F13.binds (ps := ["ring"]) fun _ _ _ _ _ _ us hl => match us, hl with | [_], _ => rfl
  have m13 := PySem.W.mg_of X G a13
  have F14 := fun_mk (st := s_offset) l14 c14 k14
  have b14 := F14.binds (ps := ["first", "second"]) fun _ _ _ _ _ _ us hl => match us, hl with | [_, _], _ => rfl
  have m14 := PySem.W.mg_of X G a14
  have F15 := fun_mk (st := s_law) l15 c15 k15
  have m15 := PySem.W.mg_of X G a15
  have mc0 := PySem.W.mg_of X G yy0
  have mc1 := PySem.W.mg_of X G yy1
  have n_isinstance := PySem.W.mg_none_of X G z_isinstance
  have n_str := PySem.W.mg_none_of X G z_str
  have n_len := PySem.W.mg_none_of X G z_len
  have n_all := PySem.W.mg_none_of X G z_all
  have n_any := PySem.W.mg_none_of X G z_any
  have n_tuple := PySem.W.mg_none_of X G z_tuple
  have n_set := PySem.W.mg_none_of X G z_set
  have n_list := PySem.W.mg_none_of X G z_list
  have n_abs := PySem.W.mg_none_of X G z_abs
  have n_int := PySem.W.mg_none_of X G z_int
  have n_bool := PySem.W.mg_none_of X G z_bool
  have n_range := PySem.W.mg_none_of X G z_range
  have n_sum := PySem.W.mg_none_of X G z_sum
  have n_reversed := PySem.W.mg_none_of X G z_reversed
  have n_zip := PySem.W.mg_none_of X G z_zip
  have n_enumerate := PySem.W.mg_none_of X G z_enumerate
  have n_min := PySem.W.mg_none_of X G z_min
  have n_max := PySem.W.mg_none_of X G z_max
  have n_sorted := PySem.W.mg_none_of X G z_sorted
  refine ⟨PySem.W.fnOf "law" "law" (defArgs s_law) (defBody s_law) (defScope s_law) .none kV15 dc15 pm15 an15 cd15 ct15, fun s v => .of_eq rfl, fun base _ _ => ?_⟩
  have Tx0 : OexC K Cx0 := ⟨⟨nmx0, qx0, Nx0, bsx0, _, snx0, subx0, abx0, colx0, ddx0, max0, mbx0, mcx0, mdx0, mex0, xlx0, (by show PySem.HandSPX.refsVE [.type "ValueError", .type "Exception", .type "BaseException", .type "object"] = true; decide +kernel)⟩, sax0, eCx0, tCx0, kCx0⟩
  have FIx0 := fun_mk (st := sBadValueInit) ilx0 icx0 ikx0
  have bIx0 := FIx0.binds (ps := ["self", "name"]) fun _ _ _ _ _ _ us hl => match us, hl with | [_, _], _ => rfl
  have Zx0 : Xc l.prog w K mg base "BadValue" "name" Cx0 := ⟨Tx0, PySem.W.mg_of X G gxx0, ⟨_, _, iax0, itx0, ok_BadValueinit FIx0 Tx0 nfx0, bIx0⟩, ⟨gax0, ggx0, eCx0, hCx0⟩, nfx0, exm_same eCx0 iCx0 tCx0 sCx0⟩
  have NB : NoB mg := List.forall_mem_cons.mpr ⟨n_isinstance, List.forall_mem_cons.mpr ⟨n_str, List.forall_mem_cons.mpr ⟨n_len, List.forall_mem_cons.mpr ⟨n_all, List.forall_mem_cons.mpr ⟨n_any, List.forall_mem_cons.mpr ⟨n_tuple, List.forall_mem_cons.mpr ⟨n_set, List.forall_mem_cons.mpr ⟨n_list, List.forall_mem_cons.mpr ⟨n_abs, List.forall_mem_cons.mpr ⟨n_int, List.forall_mem_cons.mpr ⟨n_bool, List.forall_mem_cons.mpr ⟨n_range, List.forall_mem_cons.mpr ⟨n_sum, List.forall_mem_cons.mpr ⟨n_reversed, List.forall_mem_cons.mpr ⟨n_zip, List.forall_mem_cons.mpr ⟨n_enumerate, List.forall_mem_cons.mpr ⟨n_min, List.forall_mem_cons.mpr ⟨n_max, List.forall_mem_cons.mpr ⟨n_sorted, fun _ h => nomatch h⟩⟩⟩⟩⟩⟩⟩⟩⟩⟩⟩⟩⟩⟩⟩⟩⟩⟩⟩
  have GS : FnOk l.prog w K mg base CX0 1 f0 _ ["script"] (spStream K) := ok_stream F0 n_list
  have H__law_next : HasF l.prog w K mg base 1 "_law_next" ["stream", "many"] wf__law_next := has_next F1 m1 b1 NB
  have H__law_string : HasF l.prog w K mg base 2 "_law_string" ["stream", "letters", "least", "most"] wf__law_string := (has_of F2 m2 b2 (ok__law_string F2 NB H__law_next)).imp le__law_string
  have H__law_turns : HasF l.prog w K mg base 1 "_law_turns" ["ring"] wf__law_turns := (has_of F3 m3 b3 (ok__law_turns F3 NB)).imp le__law_turns
  have H__law_equal : HasF l.prog w K mg base 5 "_law_equal" ["actual", "due"] wf__law_equal := has_equal F5 m5 b5 F4 m4 b4 NB 4
  have H_has_letters : HasF l.prog w K mg base 1 "has_letters" ["value", "least", "most"] wf_has_letters := (has_of F6 m6 b6 (ok_has_letters F6 NB ⟨_, mc1⟩)).imp le_has_letters
  have H_is_ring : HasF l.prog w K mg base 2 "is_ring" ["value"] wf_is_ring := (has_of F7 m7 b7 (ok_is_ring F7 NB H_has_letters ⟨_, mc0⟩)).imp le_is_ring
  have H_check_ring : HasF l.prog w K mg base 3 "check_ring" ["value", "name"] wf_check_ring := (has_of F8 m8 b8 (ok_check_ring F8 NB H_is_ring Zx0)).imp le_check_ring
  have H_root_of : HasF l.prog w K mg base 1 "root_of" ["ring"] wf_root_of := (has_of F9 m9 b9 (ok_root_of F9 NB)).imp le_root_of
  have H_root : HasF l.prog w K mg base 4 "root" ["ring"] wf_root := (has_of F10 m10 b10 (ok_root F10 NB H_check_ring H_root_of)).imp le_root
  have H_turned : HasF l.prog w K mg base 1 "turned" ["ring", "many"] wf_turned := (has_of F11 m11 b11 (ok_turned F11 NB)).imp le_turned
  have H_least_turned : HasF l.prog w K mg base 2 "least_turned" ["ring"] wf_least_turned := (has_of F12 m12 b12 (ok_least_turned F12 NB H_turned)).imp le_least_turned
  have H_least_rotation : HasF l.prog w K mg base 4 "least_rotation" ["ring"] wf_least_rotation := (has_of F13 m13 b13 (ok_least_rotation F13 NB H_check_ring H_least_turned)).imp le_least_rotation
  have H_offset : HasF l.prog w K mg base 4 "offset" ["first", "second"] wf_offset := (has_of F14 m14 b14 (ok_offset F14 NB H_check_ring H_turned)).imp le_offset
  exact ok_law F15 NB GS k0 b0 m0 H__law_string H__law_next H__law_turns H__law_equal H_root H_least_rotation H_offset law_hw
end Sy
open PySem PySem.W PyProof.Rows
set_option maxHeartbeats 0 in
theorem PySem.Challenge.cw_syncedwords_k17_whole_roots_and_least_ro_holds : PySem.Challenge.rw_syncedwords_k17_whole_roots_and_least_ro.Holds := by
  w_on; o_law; k_head; (case hw => w_witness2)
  k_fill
  refine L2.walk_of (l := PySem.Challenge.rw_syncedwords_k17_whole_roots_and_least_ro) (n := 63) (k := 6) (x := "script") (CX := fun w => L2.CX PySem.Challenge.rw_syncedwords_k17_whole_roots_and_least_ro.prog w) (sp := fun w => SyP.spLaw _) rfl (by decide) rfl ⟨rfl, by decide, by decide⟩ (fun w h Y => PySem.W.kIn_of Y) ?F (fun _ _ a ns hl _ hS => ⟨a, ns, rfl, hS, hl, fun _ => rfl⟩) (fun _ _ _ _ _ h => by obtain ⟨_, _, _, _, _, _, _, _, _, _, _, _, z⟩ := h; exact z)
  case F =>
    intro w mg fa h KX G hmg
    refine' Sy.all_mk KX G hmg ?a0 ?l0 ?c0 ?k0 ?a1 ?l1 ?c1 ?k1 ?a2 ?l2 ?c2 ?k2 ?a3 ?l3 ?c3 ?k3 ?a4 ?l4 ?c4 ?k4 ?a5 ?l5 ?c5 ?k5 ?a6 ?l6 ?c6 ?k6 ?a7 ?l7 ?c7 ?k7 ?a8 ?l8 ?c8 ?k8 ?a9 ?l9 ?c9 ?k9 ?a10 ?l10 ?c10 ?k10 ?a11 ?l11 ?c11 ?k11 ?a12 ?l12 ?c12 ?k12 ?a13 ?l13 ?c13 ?k13 ?a14 ?l14 ?c14 ?k14 ?a15 ?l15 ?c15 ?k15 ?yy0 ?yy1 ?z_isinstance ?z_str ?z_len ?z_all ?z_any ?z_tuple ?z_set ?z_list ?z_abs ?z_int ?z_bool ?z_range ?z_sum ?z_reversed ?z_zip ?z_enumerate ?z_min ?z_max ?z_sorted ?gxx0 ?xlx0 ?sax0 ?gax0 ?ggx0 ?nfx0 ?iax0 ?itx0 ?ilx0 ?icx0 ?ikx0 ?kCx0 ?eCx0 ?tCx0 ?hCx0 ?iCx0 ?sCx0
    (case a0 => k_is)
    (case l0 => k_is)
    (case c0 => k_is)
    (case k0 => k_is)
    (case a1 => k_is)
    (case l1 => k_is)
    (case c1 => k_is)
    (case k1 => k_is)
    (case a2 => k_is)
    (case l2 => k_is)
    (case c2 => k_is)
    (case k2 => k_is)
    (case a3 => k_is)
    (case l3 => k_is)
    (case c3 => k_is)
    (case k3 => k_is)
    (case a4 => k_is)
    (case l4 => k_is)
    (case c4 => k_is)
    (case k4 => k_is)
    (case a5 => k_is)
    (case l5 => k_is)
    (case c5 => k_is)
    (case k5 => k_is)
    (case a6 => k_is)
    (case l6 => k_is)
    (case c6 => k_is)
    (case k6 => k_is)
    (case a7 => k_is)
    (case l7 => k_is)
    (case c7 => k_is)
    (case k7 => k_is)
    (case a8 => k_is)
    (case l8 => k_is)
    (case c8 => k_is)
    (case k8 => k_is)
    (case a9 => k_is)
    (case l9 => k_is)
    (case c9 => k_is)
    (case k9 => k_is)
    (case a10 => k_is)
    (case l10 => k_is)
    (case c10 => k_is)
    (case k10 => k_is)
    (case a11 => k_is)
    (case l11 => k_is)
    (case c11 => k_is)
    (case k11 => k_is)
    (case a12 => k_is)
    (case l12 => k_is)
    (case c12 => k_is)
    (case k12 => k_is)
    (case a13 => k_is)
    (case l13 => k_is)
    (case c13 => k_is)
    (case k13 => k_is)
    (case a14 => k_is)
    (case l14 => k_is)
    (case c14 => k_is)
    (case k14 => k_is)
    (case a15 => k_is)
    (case l15 => k_is)
    (case c15 => k_is)
    (case k15 => k_is)
    (case yy0 => k_is)
    (case yy1 => k_is)
    (case z_isinstance => k_is)
    (case z_str => k_is)
    (case z_len => k_is)
    (case z_all => k_is)
    (case z_any => k_is)
    (case z_tuple => k_is)
    (case z_set => k_is)
    (case z_list => k_is)
    (case z_abs => k_is)
    (case z_int => k_is)
    (case z_bool => k_is)
    (case z_range => k_is)
    (case z_sum => k_is)
    (case z_reversed => k_is)
    (case z_zip => k_is)
    (case z_enumerate => k_is)
    (case z_min => k_is)
    (case z_max => k_is)
    (case z_sorted => k_is)
    (case gxx0 => k_is)
    (case xlx0 => k_is)
    (case sax0 => k_is)
    (case gax0 => k_is)
    (case ggx0 => k_is)
    (case nfx0 => k_is)
    (case iax0 => k_is)
    (case itx0 => k_is)
    (case ilx0 => k_is)
    (case icx0 => k_is)
    (case ikx0 => k_is)
    (case kCx0 => k_is)
    (case eCx0 => k_is)
    (case tCx0 => k_is)
    (case hCx0 => k_is)
    (case iCx0 => k_is)
    (case sCx0 => first | rfl | k_is)
