import PyProof.Rows.All
import Wide.All
import OpenK.AllK
import Wide.FinOn
import HandS.Base
import HandS.Call
import HandS.List
import HandS.Comp
import HandS.Iter
import HandS.Text
import HandS.Ends
import HandS.Words
import HandS.WordsList
import HandS.IsInst
import HandS.Strs
import KE.KxIndex
import KE.KEqSeq
import HandS.Exc
import HandS.ExcOwn
import HandS.ExcField
import HandS.WordsExc
import HandS.ExcInit
import HandS.RevRange
import HandS.Conv
import HandS.Style
import KE.KRevSl
import PyProof.Rows.SortStr
import KE.GoesMore
import HandS.Walk
import HandS.Replace
import HandS.SortOrd
import HandS.SortRule
import HandS.TupSets
import HandS.Codes
import HandS.TupAny
import PySem.Challenge.RW_syncedwords_k01_forms_of_codes
set_option Elab.async false
set_option linter.all false
set_option maxRecDepth 100000
/-! Syncedwords, part 1: a set made of a tuple of texts, a text times a number, heaps but for one place. -/
namespace Sy
open PySem PySem.Spec PyProof.Rows

/-! ### the texts of a list, each once, as they are first met -/
def met (xs : List Str) : List Str := xs.foldl (fun acc x => if acc.any (· == x) then acc else acc ++ [x]) []
theorem met_snoc (xs : List Str) (x : Str) : met (xs ++ [x]) = if (met xs).any (· == x) then met xs else met xs ++ [x] := by
  unfold met
  rw [List.foldl_append]
  rfl
theorem met_take {xs : List Str} {i : Nat} (h : i < xs.length) : met (xs.take (i + 1)) = if (met (xs.take i)).any (· == xs[i]) then met (xs.take i) else met (xs.take i) ++ [xs[i]] := by
  rw [List.take_add_one, List.getElem?_eq_getElem h]
  exact met_snoc _ _
theorem any_mem {xs : List Str} {x : Str} : xs.any (· == x) = true ↔ x ∈ xs := by
  rw [List.any_eq_true]
  constructor
  · rintro ⟨y, hy, e⟩
    rw [← beq_iff_eq.mp e]
    exact hy
  · intro h
    exact ⟨x, h, beq_self_eq_true x⟩
/-- induction from the end -/
theorem snoc_ind {α : Type} {P : List α → Prop} (h0 : P []) (h1 : ∀ xs x, P xs → P (xs ++ [x])) (xs : List α) : P xs := by
  have h : ∀ r : List α, P r.reverse := by
    intro r
    induction r with
    | nil => exact h0
    | cons a r ih =>
      rw [List.reverse_cons]
      exact h1 _ _ ih
  have := h xs.reverse
  rw [List.reverse_reverse] at this
  exact this
theorem met_mem (k : Str) (xs : List Str) : k ∈ met xs ↔ k ∈ xs := by
  refine snoc_ind (P := fun xs => k ∈ met xs ↔ k ∈ xs) Iff.rfl (fun xs x ih => ?_) xs
  rw [met_snoc]
  by_cases h : (met xs).any (· == x) = true
  · rw [if_pos h]
    have hx := any_mem.mp h
    constructor
    · intro q
      exact List.mem_append_left _ (ih.mp q)
    · intro q
      rcases List.mem_append.mp q with q | q
      · exact ih.mpr q
      · rw [List.mem_singleton.mp q]
        exact hx
  · rw [if_neg h, List.mem_append, List.mem_append, ih]
theorem met_le (xs : List Str) : (met xs).length ≤ xs.length := by
  refine snoc_ind (P := fun xs => (met xs).length ≤ xs.length) (Nat.le_refl _) (fun xs x ih => ?_) xs
  rw [met_snoc, List.length_append]
  split
  · exact Nat.le_succ_of_le ih
  · rw [List.length_append]
    exact Nat.add_le_add_right ih _
theorem nodup_snoc {α : Type} {xs : List α} {x : α} : (xs ++ [x]).Nodup ↔ xs.Nodup ∧ x ∉ xs := by
  rw [List.nodup_append]
  constructor
  · rintro ⟨a, _, c⟩
    exact ⟨a, fun h => c x h x (List.mem_singleton.mpr rfl) rfl⟩
  · rintro ⟨a, b⟩
    refine ⟨a, List.nodup_cons.mpr ⟨by simp, List.nodup_nil⟩, fun y hy z hz e => ?_⟩
    rw [List.mem_singleton.mp hz] at e
    exact b (e ▸ hy)
theorem met_len (xs : List Str) : (met xs).length = xs.length ↔ xs.Nodup := by
  refine snoc_ind (P := fun xs => (met xs).length = xs.length ↔ xs.Nodup) (by simp [met]) (fun xs x ih => ?_) xs
  rw [met_snoc, nodup_snoc, List.length_append, ← ih]
  have hle := met_le xs
  by_cases h : (met xs).any (· == x) = true
  · rw [if_pos h]
    have hx : x ∈ xs := (met_mem x xs).mp (any_mem.mp h)
    constructor
    · intro q
      exfalso
      have : [x].length = 1 := rfl
      omega
    · rintro ⟨_, n⟩
      exact absurd hx n
  · rw [if_neg h, List.length_append]
    have hx : x ∉ xs := fun q => h (any_mem.mpr ((met_mem x xs).mpr q))
    constructor
    · intro q
      exact ⟨by omega, hx⟩
    · rintro ⟨q, _⟩
      rw [q]

/-! ### set(xs), xs a tuple of texts -/
section
variable {prog : Program} {w : World} {A : Around} {R : Result → Shared → Prop} {I : Addr} {fp wr : List Addr} {G : Array GenState → Array GenState → Prop} {n : Nat} {P : Nat → Value → Prop} {St : Nat → Shared → Prop}
/-- the machine's loop that puts the items in, from the i-th on -/
theorem set_loop (W : WalksS prog w A.in1 I fp wr G n P St) (S : Addr) (out : S ∉ fp) (xs : List Str) (hn : xs.length = n) (hb : n + 1 < scanBound) (val : ∀ i v, P i v → ∃ t, v = .str (xs.getD i Str.empty) t) :
    ∀ (k i : Nat) (s : Shared), n - i = k → i ≤ n → St i s → s.heap.SetOf (PySem.strKind prog w) S (fun y => (met (xs.take i)).any (· == y)) (met (xs.take i)).length →
      (∀ s', Moved (S :: wr) G s s' → s'.heap.SetOf (PySem.strKind prog w) S (fun y => (met xs).any (· == y)) (met xs).length → R (.ok (.ret .none)) s') →
      codeAny (model prog w) A (.builtin "set.update.loop" ⟨[.ref S, .ref I], []⟩) R s
  | 0, i, s, hk, hi, st, hS, fin => by
    obtain rfl : i = n := by omega
    refine codeAny_builtin PyProof.Rows.F.entry_set_update_loop ?_
    rw [Around.under_plainId PyProof.Rows.F.plain_set_update_loop _]
    show wpAny _ A.in1 (pyNext (.ref I) >>= _) _ _ s
    refine wpAny_bind (W.done s _ _ st fun s' hm => ?_)
    show wpAny _ A.in1 (ret Value.none) _ _ s'
    rw [List.take_of_length_le (Nat.le_of_eq hn)] at hS
    refine wpAny_pure (fin s' (hm.mono fun b hb => List.mem_cons_of_mem _ hb) ?_)
    obtain ⟨o, es, ep, t, ho, more⟩ := hS
    exact ⟨o, es, ep, t, hm.heap S _ (fun z => out (W.sub _ z)) ho, more⟩
  | k + 1, i, s, hk, hi, st, hS, fin => by
    have lt : i < n := by omega
    have ltx : i < xs.length := by omega
    refine codeAny_builtin PyProof.Rows.F.entry_set_update_loop ?_
    rw [Around.under_plainId PyProof.Rows.F.plain_set_update_loop _]
    show wpAny _ A.in1 (pyNext (.ref I) >>= _) _ _ s
    refine wpAny_bind (W.item i s _ _ lt st fun v s' hP st' hm => ?_)
    obtain ⟨t, rfl⟩ := val i v hP
    have ex : xs.getD i Str.empty = xs[i] := by
      rw [List.getD_eq_getElem?_getD, List.getElem?_eq_getElem ltx] <;> rfl
    rw [ex]
    have hS' : s'.heap.SetOf (PySem.strKind prog w) S (fun y => (met (xs.take i)).any (· == y)) (met (xs.take i)).length := by
      obtain ⟨o, es, ep, tb, ho, more⟩ := hS
      exact ⟨o, es, ep, tb, hm.heap S _ (fun z => out (W.sub _ z)) ho, more⟩
    show wpAny _ A.in1 (holding [Value.str xs[i] t] (setAdd S (.str xs[i] t)) >>= _) _ _ s'
    refine wpAny_bind (wpAny_holding ?_)
    unfold setAdd
    refine wpAny_holding ?_
    refine wpAny_bind ((PySem.strKind prog w).pyHash (k := xs[i]) (strKind_is _ _ _ _) ?_)
    have room : (met (xs.take i)).length + 1 < scanBound := by
      have h1 := met_le (xs.take i)
      rw [List.length_take] at h1
      omega
    refine wpAny_setAddHashed_of (knd := PySem.strKind prog w) (s := { s' with toks := s'.toks + 1 }) (strKind_is _ _ _ _) rfl hS' room fun h' sb new => ?_
    have next : h'.SetOf (PySem.strKind prog w) S (fun y => (met (xs.take (i + 1))).any (· == y)) (met (xs.take (i + 1))).length := by
      refine SetOf_congr new (fun y => ?_) ?_
      · rw [met_take ltx]
        by_cases q : (met (xs.take i)).any (· == xs[i]) = true
        · rw [if_pos q]
          by_cases e : y = xs[i]
          · subst e
            rw [q]
            rfl
          · rw [decide_eq_false e, Bool.or_false]
        · rw [if_neg q, List.any_append]
          congr 1
          rw [List.any_cons, List.any_nil, Bool.or_false]
          by_cases e : y = xs[i]
          · subst e
            rw [beq_self_eq_true, decide_eq_true rfl]
          · rw [decide_eq_false e]
            exact (beq_eq_false_iff_ne.mpr fun z => e z.symm).symm
      · rw [met_take ltx]
        by_cases q : (met (xs.take i)).any (· == xs[i]) = true
        · rw [if_pos q, if_pos q]
        · rw [if_neg q, if_neg q, List.length_append] <;> rfl
    refine wpAny_pure ⟨plainId_quiet PyProof.Rows.F.plain_set_update_loop _, set_loop W S out xs hn hb val k (i + 1) _ (by omega) lt (W.frame _ s' _ _ st' (Nat.le_succ _) fun b hb' o e => ?_) next fun s'' hm' hS'' => ?_⟩
    · rw [sb.2 b fun z => out (z ▸ hb')]
      exact e
    · refine fin s'' (Moved.trans W.gtrans ((hm.mono fun b hb' => List.mem_cons_of_mem _ hb').then_heap (Nat.le_succ _) fun b o hb' e => ?_) hm') hS''
      rw [sb.2 b fun z => hb' (z ▸ List.mem_cons_self)]
      exact e
end
section
variable {prog : Program} {w : World} {A : Around} {E : Value → Shared → Prop} {s : Shared}
/-- the empty set object as it is made -/
abbrev emptySet (led : Bool) : Obj := { cls := .type "set", dict := none, data := .set #[] 0 (.fresh 0 0 led) }
set_option maxHeartbeats 3200000 in
theorem call_set_txt {l : Addr} {items : Array Value} {xs : List Str} {Q : Value → Shared → Prop} (hh : A.handled = none) (hl : s.heap.IsTuple l items) (hi : PyProof.Rows.StrsAre items.toList xs) (hb : xs.length + 1 < scanBound)
    (h : ∀ (h' : Heap) (tk : Nat), h'.SetOf (PySem.strKind prog w) s.heap.objs.size (fun y => (met xs).any (· == y)) (met xs).length →
      (∀ b o, b < s.heap.objs.size → s.heap.get? b = some o → h'.get? b = some o) → Q (.ref s.heap.objs.size) { s with heap := h', toks := tk }) :
    wpAny (model prog w) A (call (.type "set") [.ref l]) Q E s := by
  obtain ⟨c, tl, hmro⟩ := PySem.F.called_set.mro
  have hmade := PySem.F.called_set.made
  have hsub := PySem.F.called_set.sub
  refine wpAny_call (codeAny_of_tree ?_)
  show wpAny _ _ (callAny (.type "set") _) _ _ _
  refine wpAny_pure ⟨Code.quiet_builtin _ (by decide +kernel), codeAny_builtin PySem.F.entry_type_call ?_⟩
  rw [Around.under_plain (weight_type_call_type "set" [.ref l] []) rfl]
  have h1 := PySem.F.called_set.notType
  have h2 := PySem.F.called_set.canCreate
  have hct := PySem.F.typeCall_set_1 (.ref l)
  repeat (any_goals (first | assumption | wp_step))
  refine codeAny_mono (code_set_new_1 (.ref l) (E := E) (Q₁ := fun obj s₁ => ∃ led : Bool, obj = .ref s.heap.objs.size ∧ s₁ = { s with heap := s.heap.push (emptySet led) }) fun led => ⟨led, rfl, rfl⟩) fun r s₁ hr => ?_
  cases r with
  | error e => exact hr
  | ok fl =>
    cases fl with
    | next => exact hr.elim
    | brk => exact hr.elim
    | cont => exact hr.elim
    | ret obj =>
    obtain ⟨led, rfl, rfl⟩ := hr
    have hS : (s.heap.push (emptySet led)).get? s.heap.objs.size = some (emptySet led) := Heap.get?_push_size _ rfl
    have hT : Shared.TypeIs { s with heap := s.heap.push (emptySet led) } (.ref s.heap.objs.size) "set" := ⟨_, hS, rfl⟩
    have hli := PySem.F.called_set.init.lookup
    have hbi := PySem.F.called_set.init.bind (.ref s.heap.objs.size)
    repeat (any_goals (first | assumption | wp_step))
    refine codeAny_mono (codeAny_call_builtin (R := wants (fun r s₂ => r = .none ∧ ∃ h' tk, s₂ = { s with heap := h', toks := tk } ∧ h'.SetOf (PySem.strKind prog w) s.heap.objs.size (fun y => (met xs).any (· == y)) (met xs).length ∧
      (∀ b o, b < s.heap.objs.size → s.heap.get? b = some o → h'.get? b = some o)) E) PySem.F.called_set.init.plain PySem.F.entry_set_init (check_set_init_1 hT ?_)) fun r₂ s₂ hr₂ => ?_
    · obtain ⟨⟨ocls, odict, odata, oslots⟩, hol, hcl, nl, hdl⟩ := hl
      simp only at hcl hdl
      subst hcl; subst hdl
      have hol' : (s.heap.push (emptySet led)).get? l = some { cls := .type "tuple", dict := odict, data := .seq items nl, slots := oslots } := Heap.get?_push_of_some _ hol
      have hsls := PySem.F.sub_tuple_set
      have hslf := PySem.F.sub_tuple_frozenset
      have hne : (Value.type "tuple" == Value.type "dict") = false := by decide
      have hl1 : (s.heap.push (emptySet led)).IsTuple l items := ⟨_, hol', rfl, nl, rfl⟩
      unfold Builtin.«set.__init__» noKeywords Builtin.Frozenset.updateFrom
      generalize hPI : pyIter = PI
      wp_walk
      subst hPI
      refine wpAny_pyIter_tuple hl1 ?_
      refine wpAny_bind (wpAny_runValue ?_)
      have hlS : l < s.heap.objs.size := Heap.lt_size hol
      have hh3 : A.in1.in1.in1.handled = none := by simp [hh]
      have hneI : l ≠ (s.heap.push (emptySet led)).objs.size := by
        rw [Heap.size_push]
        exact Nat.ne_of_lt (Nat.lt_succ_of_lt hlS)
      have out : s.heap.objs.size ∉ [(s.heap.push (emptySet led)).objs.size, l] := by
        rw [Heap.size_push]
        simp only [List.mem_cons, List.not_mem_nil, or_false, not_or]
        exact ⟨Nat.ne_of_lt (Nat.lt_succ_self _), Nat.ne_of_gt hlS⟩
      have hsz : xs.length = items.size := by rw [← StrsAre.len_eq hi, Array.length_toList]
      refine set_loop ((Walks.tuple hh3 _ l hneI items).toS) s.heap.objs.size out xs hsz (by omega) (fun i v hv => SS.strs_at hi i v (by rw [Array.getElem?_toList]; exact hv)) (items.size - 0) 0 _ (by omega) (Nat.zero_le _)
        ⟨⟨_, Heap.get?_push_size _ rfl, rfl, rfl⟩, (hl1.push _)⟩ ?h0 fun s' hm hS' => ?_
      case h0 =>
        refine PyProof.Rows.SetOf_congr ((PyProof.Rows.setObjOf_fresh (knd := PySem.strKind prog w) led).setOf (a := s.heap.objs.size) (Heap.get?_push_of_some _ hS) (by unfold scanBound; omega)) (fun _ => rfl) rfl
      obtain ⟨h', g', d', tk', os'⟩ := s'
      obtain rfl : g' = s.gens := hm.gens
      obtain rfl : d' = s.drawn := hm.drawn
      obtain rfl : os' = s.os := hm.os
      show wpAny _ _ _ _ _ _
      refine wpAny_pure ?_
      show wpAny _ _ (ret Value.none) _ _ _
      refine wpAny_pure ⟨rfl, h', tk', rfl, hS', fun b o hb' e => hm.heap b o ?_ (Heap.get?_push_of_some _ (Heap.get?_push_of_some _ e))⟩
      rw [Heap.size_push]
      simp only [List.mem_cons, List.not_mem_nil, or_false, not_or]
      exact ⟨Nat.ne_of_lt hb', Nat.ne_of_lt (Nat.lt_succ_of_lt hb')⟩
    · cases r₂ with
      | error e => exact hr₂
      | ok f2 =>
        cases f2 with
        | next => exact hr₂.elim
        | brk => exact hr₂.elim
        | cont => exact hr₂.elim
        | ret r =>
          obtain ⟨rfl, h', tk, rfl, hS', hk'⟩ := hr₂
          repeat (any_goals (first | assumption | wp_step))
          exact h _ _ hS' hk'
end
end Sy
namespace L2
open PySem PySem.Spec PyProof.Rows
section
variable {X : Cx}
/-- len(set(t)), t a tuple of texts: how many there are, each once -/
def tLenTxt (K : PySem.W.Frag) (ta : TE) : TE := fun σ H Q => ta σ H fun x H1 => ∃ (l : Addr) (xs : List Str), x = V.ref l ∧ SqT K H1 l (xs.map V.str) ∧ xs.length ≤ 1000 ∧ Q (.int ((Sy.met xs).length : Nat)) H1
theorem pe_lenTxt {a : Expr} {ta : TE} {p p2 q pos : Pos} (hc : X.calm = true) (hg : Gl X "len") (hm : X.mg "len" = none) (hg2 : Gl X "set") (hm2 : X.mg "set" = none) (ha : PE X a ta)
    (na : starEach [a] X.env = (false, eval a X.env) :: starEach [] X.env := by rfl) : PE X (.Call (.Name "len" p) [.Call (.Name "set" p2) [a] [] q] [] pos) (tLenTxt X.K ta) := by
  refine ⟨fun pins s σ H Q I h => ?_⟩
  refine Call_ (ld_blt I hg hm PySem.boot_len ?_)
  refine PyProof.Rows.callWith_builtin1 (PyProof.Rows.args_cons ?_ rfl) rfl rfl
  refine Call_ (ld_blt I hg2 hm2 PyProof.Rows.boot_set ?_)
  refine PyProof.Rows.callWith_type1 (PyProof.Rows.args_cons (thn (ha.run pins s σ H _ I h) fun v s1 ⟨x, H1, I1, r1, q1⟩ => PyProof.Rows.args_nil ?_) na) na rfl
  obtain ⟨l, xs, rfl, hq, hl, q1⟩ := q1
  cases r1
  obtain ⟨its, r, pl, hz⟩ := I1.tuple hq
  have hle := Sy.met_le xs
  refine Sy.call_set_txt (I1.ok.hd hc) pl (by simpa using strsAre_of r) (by unfold scanBound; omega) fun h' tk hS hk => ?_
  refine PyProof.Rows.args_nil ?_
  obtain ⟨o, es, ep, t, ho, hex, hd, _, _, _, hf, hn⟩ := hS
  have I2 : Inv X pins σ H1 { s1 with heap := h', toks := tk } := I1.kept fun b o e => hk b o (Heap.lt_size e) e
  exact call_len_set ho hex hd hf (by rw [hn] <;> omega) ⟨.int ((Sy.met xs).length : Nat), H1, I2.tok _, ⟨_, by rw [hn]⟩, q1⟩
/-- a text times a number -/
theorem op_mul_txt : OpR X (binaryOp .Mult) (fun x y H Q => ∃ z n, x = .str z ∧ y = .int n ∧ z.length ≤ 16 ∧ 0 ≤ n ∧ n ≤ 1000 ∧ Q (.str (Txt.mul z n)) H) := by
  intro pins s σ H x y v u Q I rx ry h
  obtain ⟨z, n, rfl, rfl, h1, h2, h3, q⟩ := h
  obtain ⟨t, rfl⟩ := rx
  obtain ⟨t', rfl⟩ := ry
  exact PySem.W.KXi.mul rfl h1 (by omega) (by omega) fun t' k _ _ => ⟨.str (Txt.mul z n), H, I.tok _, ⟨_, rfl⟩, q⟩
end
end L2
namespace Sy
open PySem PySem.Spec PyProof.Rows L2
/-! ### all that was tracked stands as it was, but what stands at a -/
def Keep (a : Addr) (H H' : Hp) : Prop := ∀ b o, b ≠ a → H b = some o → H' b = some o
theorem Keep.refl {a : Addr} (H : Hp) : Keep a H H := fun _ _ _ e => e
theorem Keep.trans {a : Addr} {H H1 H2 : Hp} (k : Keep a H H1) (l : Keep a H1 H2) : Keep a H H2 := fun b o n e => l b o n (k b o n e)
theorem Keep.of_same {a : Addr} {H H' : Hp} (s : Same H H') : Keep a H H' := fun b o _ e => s b o e
theorem Keep.new {a p : Addr} {o : HO} {H H1 : Hp} (k : Keep a H H1) (n : H1 p = none) : Keep a H (upd H1 p o) := fun b u nb e => by
  rw [upd_ne (ne_of_none (k b u nb e) n)]
  exact k b u nb e
theorem Keep.put {a : Addr} {o : HO} {H H1 : Hp} (k : Keep a H H1) : Keep a H (upd H1 a o) := fun b u nb e => by
  rw [upd_ne nb]
  exact k b u nb e
theorem Same.new {p : Addr} {o : HO} {H H1 : Hp} (k : Same H H1) (n : H1 p = none) : Same H (upd H1 p o) := fun b u e => by
  rw [upd_ne (ne_of_none (k b u e) n)]
  exact k b u e
theorem Same.tup {K : PySem.W.Frag} {H H' : Hp} {b : Addr} {xs : List V} (k : Same H H') (h : SqT K H b xs) : SqT K H' b xs := by
  rcases h with (h | ⟨o, h⟩) | h
  · exact .inl (.inl (k _ _ h))
  · exact .inl (.inr ⟨o, k _ _ h⟩)
  · exact .inr h
/-- what is tracked elsewhere is read as before -/
theorem Keep.lst {a b : Addr} {xs : List V} {H H' : Hp} (k : Keep a H H') (n : b ≠ a) (h : H b = some (.lst xs)) : H' b = some (.lst xs) := k b _ n h
theorem Keep.tup {K : PySem.W.Frag} {a b : Addr} {xs ys : List V} {H H' : Hp} (k : Keep a H H') (hs : H a = some (.lst ys)) (h : SqT K H b xs) : SqT K H' b xs := by
  rcases h with (h | ⟨o, h⟩) | h
  · exact .inl (.inl (k _ _ (ne_of h hs (by intro z; cases z)) h))
  · exact .inl (.inr ⟨o, k _ _ (ne_of h hs (by intro z; cases z)) h⟩)
  · exact .inr h
end Sy
/-! Syncedwords, part 2: the numbers that a script gives. -/
namespace Sy
open PySem PySem.Spec PyProof.Rows L2
open C8 (pss_cut tCut)
def topS (i : Nat) : Stmt := PySem.Challenge.pw_syncedwords_k01_forms_of_codes.main.body.getD i (.Pass ⟨0, 0, 0, 0⟩)
abbrev sStream : Stmt := topS 10
abbrev sNext : Stmt := topS 11
theorem scStream : FnScope ["script"] ["script"] (defScope sStream) := ⟨rfl, rfl, rfl, by decide +kernel, rfl, by decide +kernel, by decide +kernel⟩
theorem scNext : FnScope ["stream", "many", "k", "cell", "digit"] ["stream", "many"] (defScope sNext) := ⟨rfl, rfl, rfl, by decide +kernel, rfl, by decide +kernel, by decide +kernel⟩

/-- a stream at s: a list of a list at l, a rest, and how many numbers were taken -/
def Strm (l : Addr) (H : Hp) (s : Addr) : Prop := l ≠ s ∧ ∃ (ns : List Int) (x k : Int), H l = some (.lst (ns.map V.int)) ∧ ns.length ≤ 63 ∧ H s = some (.lst [.ref l, .int x, .int k]) ∧ 0 ≤ x ∧ 0 ≤ k
theorem Strm.at {l s : Addr} {H : Hp} (h : Strm l H s) : ∃ o, H s = some o := ⟨_, h.2.choose_spec.choose_spec.choose_spec.2.2.1⟩
theorem Strm.new {l s p : Addr} {H : Hp} {o : HO} (h : Strm l H s) (n : H p = none) : Strm l (upd H p o) s := by
  obtain ⟨ne, ns, x, k, h1, h2, h3, h4⟩ := h
  exact ⟨ne, ns, x, k, by rw [upd_ne (ne_of_none h1 n)]; exact h1, h2, by rw [upd_ne (ne_of_none h3 n)]; exact h3, h4⟩
theorem Strm.put {l s p : Addr} {H : Hp} {o : HO} (h : Strm l H s) (n1 : p ≠ s) (n2 : p ≠ l) : Strm l (upd H p o) s := by
  obtain ⟨ne, ns, x, k, h1, h2, h3, h4⟩ := h
  exact ⟨ne, ns, x, k, by rw [upd_ne n2.symm]; exact h1, h2, by rw [upd_ne n1.symm]; exact h3, h4⟩

def spStream (K : PySem.W.Frag) : Sp := fun vs H Q _ => ∃ (a : Addr) (ns : List Int), vs = [.ref a] ∧ SqL K H a (ns.map V.int) ∧ ns.length ≤ 63 ∧ ∀ l s H', Same H H' → H s = none → H l = none → Strm l H' s → Q (.ref s) H'
def spNext : Sp := fun vs H Q _ => ∃ (l s : Addr) (m : Int), vs = [.ref s, .int m] ∧ Strm l H s ∧ 0 < m ∧ m < 1073741824 ∧ ∀ d H', 0 ≤ d → d < m → Keep s H H' → Strm l H' s → Q (.int d) H'

section
variable {P : Program} {w : World} {K : PySem.W.Frag} {mg : Str → Option Value} {base : Heap}
theorem ok_stream {f : Addr} {fd : FuncData} (F : Fun K "_law_stream" "_law_stream" sStream f fd) (ml : mg "list" = none) : FnOk P w K mg base CX0 1 f fd ["script"] (spStream K) := by
  refine F.ok scStream (fun vs H Q E h => ?_) (fun cdv A outer s H vs Q E hr h => ?_)
  · obtain ⟨a, ns, rfl, _⟩ := h
    rfl
  · obtain ⟨a, ns, rfl, hS, hl, q⟩ := h
    refine ⟨_, pss_one (ps_ret (pe_lst (pa_cons (pe_callTy call_list_of (by rfl) ml (by decide +kernel) (pa_cons (pv 0) pa_nil)) (pa_cons pe_int (pa_cons pe_int pa_nil))))), ?_⟩
    refine ⟨_, rfl, a, _, rfl, .inl hS, fun l hl0 => ⟨(by show 3 ≤ sizeLine; decide), fun p hp => ?_⟩⟩
    have nlp : l ≠ p := fun e => by
      rw [← e, upd_same] at hp
      cases hp
    have hp0 : H p = none := by
      rw [upd_ne nlp.symm] at hp
      exact hp
    exact q l p _ (Same.new (Same.new (Same.refl H) hl0) hp) hp0 hl0 ⟨nlp, ns, 0, 0, by rw [upd_ne nlp, upd_same], hl, upd_same, Int.le_refl _, Int.le_refl _⟩

theorem ok_next {f : Addr} {fd : FuncData} (F : Fun K "_law_next" "_law_next" sNext f fd) (ml : mg "len" = none) (ma : mg "abs" = none) (mi : mg "int" = none) : FnOk P w K mg base CX0 1 f fd ["stream", "many"] spNext := by
  refine F.ok scNext (fun vs H Q E h => ?_) (fun cdv A outer s H vs Q E hr h => ?_)
  · obtain ⟨l, s, m, rfl, _⟩ := h
    rfl
  · obtain ⟨l, p, m, rfl, hst, hm0, hm1, q⟩ := h
    refine ⟨_, pss_cut (ps_if (pt_cmpR op_eq (pe_ix ix_list (pv 0) pe_int (fun _ _ => rfl)) pe_int (nomark _))
        (pss_cons (ps_set (i := 2) scNext.nd rfl (.inl rfl) (pe_ix ix_list (pv 0) pe_int (fun _ _ => rfl)))
        (pss_cons (ps_set (i := 3) scNext.nd rfl (.inl rfl) (pe_op op_add pe_int (pv 2)))
        (pss_cut (ps_if (pt_cmpR op_lt (pv 2) (pe_callB call_len_seq (by rfl) ml PySem.boot_len (pa_cons (pe_ix ix_list (pv 0) pe_int (fun _ _ => rfl)) pa_nil)) (nomark _))
          (pss_one (ps_set (i := 3) scNext.nd rfl (.inl rfl) (pe_callB call_abs (by rfl) ma (by decide +kernel) (pa_cons (pe_ix ix_list (pe_ix ix_list (pv 0) pe_int (fun _ _ => rfl)) (pv 2) (fun _ _ => rfl)) pa_nil)))) pss_nil)
        (pss_cut (ps_if (pt_cmpR op_lt (pv 3) (pe_op op_pow pe_int pe_int) (nomark _))
          (pss_cons (ps_set (i := 3) scNext.nd rfl (.inl rfl) (pe_op op_mod (pe_callTy call_int1 (by rfl) mi (by decide +kernel) (pa_cons (pe_op op_add (pe_op op_add (pe_op op_mul (pv 3) pe_int) (pe_op op_mul (pv 2) pe_int)) pe_int) pa_nil)) pe_int))
          (pss_one (ps_set (i := 3) scNext.nd rfl (.inl rfl) (pe_op op_add (pe_op op_mul (pe_op op_mod (pe_callTy call_int1 (by rfl) mi (by decide +kernel) (pa_cons (pe_op op_add (pe_op op_mul (pv 3) pe_int) pe_int) pa_nil)) pe_int) pe_int) (pv 3))))) pss_nil)
        (pss_cons (ps_asg (pv 3) (pg_sub (pv 0) pe_int set_list))
        (pss_one (ps_asg (pe_op op_add (pv 2) pe_int) (pg_sub (pv 0) pe_int set_list))))))))
        pss_nil)
      (pss_cons (ps_set (i := 4) scNext.nd rfl (.inl rfl) (pe_op op_mod (pe_callTy call_int1 (by rfl) mi (by decide +kernel) (pa_cons (pe_ix ix_list (pv 0) pe_int (fun _ _ => rfl)) pa_nil)) (pv 1)))
      (pss_cons (ps_asg (pe_op op_fdivN (pe_ix ix_list (pv 0) pe_int (fun _ _ => rfl)) (pv 1)) (pg_sub (pv 0) pe_int set_list))
      (pss_one (ps_ret (pv 4))))), ?_⟩
    obtain ⟨ne, ns, x, k, h1, h2, h3, hx, hk⟩ := hst
    have S3 : SqL K H p [.ref l, .int x, .int k] := SqL.of h3
    refine ⟨fun σ' H' => Keep p H H' ∧ Strm l H' p ∧ ∃ y2 y3 y4, σ' = [some (.ref p), some (.int m), y2, y3, y4], ?_, ?_⟩
    · refine ⟨_, rfl, p, _, 1, .int x, rfl, rfl, S3, atI_nat (j := 1) rfl, rfl, _, rfl, ite2 (fun _ => ?_) (fun _ => ?_)⟩
      · refine ⟨_, rfl, p, _, 2, .int k, rfl, rfl, S3, atI_nat (j := 2) rfl, ?_⟩
        refine ⟨_, rfl, 7, k, rfl, rfl, ?_⟩
        refine ⟨fun σ' H' => H = H' ∧ ∃ c : Int, 0 ≤ c ∧ σ' = [some (.ref p), some (.int m), some (.int k), some (.int c), none], ?_, ?_⟩
        · refine ⟨_, rfl, _, rfl, p, _, 0, .ref l, rfl, rfl, S3, atI_nat (j := 0) rfl, l, _, rfl, .inl (SqL.of h1), k, _, rfl, rfl, _, rfl, ite2 (fun e => ?_) (fun _ => ?_)⟩
          · have hlt := of_decide_eq_true e
            rw [List.length_map] at hlt
            have hj : k.toNat < ns.length := by omega
            have ek : k = ((k.toNat : Nat) : Int) := by omega
            have g : (ns.map V.int)[k.toNat]? = some (.int ns[k.toNat]) := by
              rw [List.getElem?_map, List.getElem?_eq_getElem hj]
              rfl
            refine ⟨_, rfl, p, _, 0, .ref l, rfl, rfl, S3, atI_nat (j := 0) rfl, _, rfl, l, _, k, _, rfl, rfl, SqL.of h1, at_of ek g, _, rfl, rfl, _, ?_, rfl⟩
            split <;> omega
          · exact ⟨rfl, _, by omega, rfl⟩
        · rintro σ' H' ⟨rfl, c, hc, rfl⟩
          refine ⟨fun σ' H' => H = H' ∧ ∃ c : Int, 0 ≤ c ∧ σ' = [some (.ref p), some (.int m), some (.int k), some (.int c), none], ?_, ?_⟩
          · refine ⟨_, rfl, 10, 18, rfl, rfl, ⟨by decide, by decide, by decide⟩, c, _, rfl, rfl, _, rfl, ite2 (fun _ => ?_) (fun _ => ⟨rfl, c, hc, rfl⟩)⟩
            refine ⟨_, rfl, c, 48271, rfl, rfl, .inr ⟨by decide, by decide⟩, _, rfl, k, 69621, rfl, rfl, .inr ⟨by decide, by decide⟩, _, _, rfl, rfl, _, _, rfl, rfl, .inl ⟨_, rfl, _, _, rfl, rfl, (by show (0 : Int) < 2147483647; decide), ?_⟩⟩
            refine ⟨_, rfl, _, 16807, rfl, rfl, .inr ⟨by decide, by decide⟩, _, _, rfl, rfl, .inl ⟨_, rfl, _, _, rfl, rfl, (by show (0 : Int) < 2147483647; decide), _, _, rfl, rfl, .inr ⟨by decide, by decide⟩, _, rfl, _, _, rfl, rfl, ?_⟩⟩
            refine ⟨rfl, _, ?_, rfl⟩
            have m1 := Int.emod_nonneg (c * 48271 + k * 69621 + 11) (show (2147483647 : Int) ≠ 0 by decide)
            have m2 := Int.emod_nonneg ((c * 48271 + k * 69621 + 11) % 2147483647 * 16807 + 13) (show (2147483647 : Int) ≠ 0 by decide)
            omega
          · rintro σ' H' ⟨rfl, c, hc, rfl⟩
            refine ⟨_, rfl, _, rfl, p, _, 1, 1, rfl, rfl, h3, rfl, ?_⟩
            refine ⟨_, rfl, k, 1, rfl, rfl, _, rfl, p, _, 2, 2, rfl, rfl, upd_same, rfl, ?_⟩
            refine ⟨(Keep.refl _).put.put, ⟨ne, ns, c, k + 1, ?_, h2, upd_same, hc, by omega⟩, _, _, _, rfl⟩
            rw [upd_ne ne, upd_ne ne]
            exact h1
      · exact ⟨Keep.refl _, ⟨ne, ns, x, k, h1, h2, h3, hx, hk⟩, _, _, _, rfl⟩
    · rintro σ' H' ⟨kp, ⟨_, ns, x, k, h1, h2, h3, hx, hk⟩, y2, y3, y4, rfl⟩
      have S3 : SqL K H' p [.ref l, .int x, .int k] := SqL.of h3
      refine ⟨_, rfl, p, _, 1, .int x, rfl, rfl, S3, atI_nat (j := 1) rfl, .inl ⟨x, rfl, _, rfl, x, m, rfl, rfl, hm0, ?_⟩⟩
      refine ⟨_, rfl, p, _, 1, .int x, rfl, rfl, S3, atI_nat (j := 1) rfl, _, rfl, x, m, rfl, rfl, ⟨by omega, by omega⟩, ?_⟩
      refine ⟨_, rfl, p, _, 1, 1, rfl, rfl, h3, rfl, _, rfl, ?_⟩
      refine q _ _ (Int.emod_nonneg _ (by omega)) (Int.emod_lt_of_pos _ hm0) kp.put ⟨ne, ns, x.fdiv m, k, by rw [upd_ne ne]; exact h1, h2, upd_same, ?_, hk⟩
      rw [Int.fdiv_eq_ediv_of_nonneg _ (by omega)]
      exact Int.ediv_nonneg hx (by omega)
end
end Sy
/-! Syncedwords, part 3: what a law draws: one of a list, a text, a code. -/
namespace Sy
open PySem PySem.Spec PyProof.Rows L2
open C8 (pss_cut tCut)
abbrev sPick : Stmt := topS 14
abbrev sString : Stmt := topS 15
abbrev sCode : Stmt := topS 16
theorem scPick : FnScope ["stream", "rows"] ["stream", "rows"] (defScope sPick) := ⟨rfl, rfl, rfl, by decide +kernel, rfl, by decide +kernel, by decide +kernel⟩
theorem scString : FnScope ["stream", "least", "most", "letters", "k"] ["stream", "least", "most", "letters"] (defScope sString) := ⟨rfl, rfl, rfl, by decide +kernel, rfl, by decide +kernel, by decide +kernel⟩
theorem scCode : FnScope ["stream", "many", "most", "letters", "words", "turn", "word"] ["stream", "many", "most"] (defScope sCode) := ⟨rfl, rfl, rfl, by decide +kernel, rfl, by decide +kernel, by decide +kernel⟩

/-- only the first m of the letters -/
def Lets (m : Int) (z : Str) : Prop := ∀ c ∈ TL.tl z, 97 ≤ c ∧ (c : Int) < 97 + m
theorem joinL_nil : ∀ ps : List (List Nat), TL.joinL [] ps = ps.flatten
  | [] => rfl
  | [p] => by simp [TL.joinL]
  | p :: q :: r => by
    show p ++ ([] ++ TL.joinL [] (q :: r)) = p ++ (q :: r).flatten
    rw [List.nil_append, joinL_nil (q :: r)]
theorem tl_join0 (ys : List Str) : TL.tl (Txt.join "" ys) = (ys.map TL.tl).flatten := by
  rw [TL.join_eq, TL.tl_join]
  exact joinL_nil _
/-- signs, one behind another -/
theorem join_signs {m : Int} : ∀ {ys : List Str}, (∀ y ∈ ys, ∃ c : Nat, y = ⟨#[c]⟩ ∧ 97 ≤ c ∧ (c : Int) < 97 + m) → (ys.map TL.tl).flatten.length = ys.length ∧ ∀ c ∈ (ys.map TL.tl).flatten, 97 ≤ c ∧ (c : Int) < 97 + m
  | [], _ => ⟨rfl, fun c h => by simp at h⟩
  | y :: ys, h => by
    obtain ⟨c, rfl, h1, h2⟩ := h y List.mem_cons_self
    obtain ⟨i1, i2⟩ := join_signs fun z hz => h z (List.mem_cons_of_mem _ hz)
    have e : (((⟨#[c]⟩ : Str) :: ys).map TL.tl).flatten = c :: (ys.map TL.tl).flatten := rfl
    rw [e]
    refine ⟨by rw [List.length_cons, i1, List.length_cons], fun d hd => ?_⟩
    rcases List.mem_cons.mp hd with rfl | hd
    · exact ⟨h1, h2⟩
    · exact i2 d hd
theorem lets_join {m : Int} {ys : List Str} (h : ∀ y ∈ ys, ∃ c : Nat, y = ⟨#[c]⟩ ∧ 97 ≤ c ∧ (c : Int) < 97 + m) : Lets m (Txt.join "" ys) ∧ (Txt.join "" ys).length = ys.length := by
  obtain ⟨h1, h2⟩ := join_signs h
  refine ⟨fun c hc => h2 c ?_, ?_⟩
  · rw [← tl_join0]
    exact hc
  · rw [TL.len_tl, tl_join0, h1]

def spPick : Sp := fun vs H Q _ => ∃ (l s r : Addr) (xs : List V), vs = [.ref s, .ref r] ∧ Strm l H s ∧ H r = some (.lst xs) ∧ r ≠ s ∧ 0 < xs.length ∧ xs.length ≤ 1000 ∧ ∀ (i : Nat) x H', xs[i]? = some x → Keep s H H' → Strm l H' s → Q x H'
def spPickT (K : PySem.W.Frag) : Sp := fun vs H Q _ => ∃ (l s r : Addr) (xs : List V), vs = [.ref s, .ref r] ∧ Strm l H s ∧ SqT K H r xs ∧ 0 < xs.length ∧ xs.length ≤ 1000 ∧ ∀ (i : Nat) x H', xs[i]? = some x → Keep s H H' → Strm l H' s → Q x H'
def spString : Sp := fun vs H Q _ => ∃ (l s : Addr) (lo hi m : Int), vs = [.ref s, .int lo, .int hi, .int m] ∧ Strm l H s ∧ 0 ≤ lo ∧ lo ≤ hi ∧ hi ≤ 1000 ∧ 0 < m ∧ m ≤ 3 ∧
  ∀ z H', Keep s H H' → Strm l H' s → Lets m z → lo ≤ z.length → (z.length : Int) ≤ hi → Q (.str z) H'
def spCode : Sp := fun vs H Q _ => ∃ (l s : Addr) (many most : Int), vs = [.ref s, .int many, .int most] ∧ Strm l H s ∧ 0 ≤ many ∧ many ≤ 100 ∧ 1 ≤ most ∧ most ≤ 100 ∧
  ∀ c (ws : List Str) H', Keep s H H' → Strm l H' s → H c = none → H' c = some (.tup (ws.map V.str)) → ws.Nodup → (ws.length : Int) ≤ many → (∀ z ∈ ws, Lets 3 z ∧ 1 ≤ z.length ∧ (z.length : Int) ≤ most) → Q (.ref c) H'

theorem Keep.put' {a p : Addr} {o : HO} {H H1 : Hp} (k : Keep a H H1) (n : H p = none) : Keep a H (upd H1 p o) := fun b u nb e => by
  rw [upd_ne (ne_of_none e n)]
  exact k b u nb e
theorem Strm.ne {l s p : Addr} {H : Hp} (h : Strm l H s) (n : H p = none) : p ≠ s ∧ p ≠ l := by
  obtain ⟨ne, ns, x, k, h1, h2, h3, h4⟩ := h
  exact ⟨(ne_of_none h3 n).symm, (ne_of_none h1 n).symm⟩

/-- a comprehension's turn without an if -/
theorem tYes_ok {σ : L2.St} {H : Hp} {A B : Hp → Prop} (h : A H) : tYes σ H (fun b H3 => if b = true then A H3 else B H3) := by
  show (if true = true then A H else B H)
  rw [if_pos rfl]
  exact h
section
variable {P : Program} {w : World} {K : PySem.W.Frag} {mg : Str → Option Value} {base : Heap}
/-- one of the two items of a turn: the abc letter at d -/
theorem abc_at {d m : Int} (h0 : 0 ≤ d) (h1 : d < m) (h3 : m ≤ 3) : ∃ c : Nat, atI (("abc" : Str).cps.toList) d = some c ∧ 97 ≤ c ∧ (c : Int) < 97 + m := by
  have e : ("abc" : Str).cps.toList = [97, 98, 99] := by decide +kernel
  rw [e]
  obtain h | h | h : d = 0 ∨ d = 1 ∨ d = 2 := by omega
  · subst h
    exact ⟨97, rfl, Nat.le_refl _, by omega⟩
  · subst h
    exact ⟨98, rfl, by decide, by omega⟩
  · subst h
    exact ⟨99, rfl, by decide, by omega⟩
theorem ok_pick {f fn : Addr} {fd fdn : FuncData} (F : Fun K "_law_pick" "_law_pick" sPick f fd) (FN : Fun K "_law_next" "_law_next" sNext fn fdn) (GN : FnOk P w K mg base CX0 1 fn fdn ["stream", "many"] spNext) (bN : Binds K fdn ["stream", "many"] [])
    (gN : mg "_law_next" = some (.ref fn)) (ml : mg "len" = none) : FnOk P w K mg base CX0 2 f fd ["stream", "rows"] spPick := by
  refine F.ok scPick (fun vs H Q E h => ?_) (fun cdv A outer s H vs Q E hr h => ?_)
  · obtain ⟨l, s, r, xs, rfl, _⟩ := h
    rfl
  · obtain ⟨l, p, r, xs, rfl, hst, hr1, hne, h0, h1, q⟩ := h
    refine ⟨_, pss_one (ps_ret (pe_ix ix_list (pv 1) (pe_call GN (hr.mono (by decide)) (by rfl) gN FN.kp bN .nil pass0 (pa_cons (pv 0) (pa_cons (pe_callB call_len_seq (by rfl) ml PySem.boot_len (pa_cons (pv 1) pa_nil)) pa_nil))) (fun _ _ => rfl))), ?_⟩
    refine ⟨_, rfl, _, rfl, _, rfl, r, xs, rfl, .inl (SqL.of hr1), l, p, _, rfl, hst, by omega, by omega, fun d H' d0 d1 kp st => ?_⟩
    have hd : d.toNat < xs.length := by omega
    exact ⟨r, xs, d, xs[d.toNat], rfl, rfl, SqL.of (kp _ _ hne hr1), at_of (by omega) (List.getElem?_eq_getElem hd), q _ _ _ (List.getElem?_eq_getElem hd) kp st⟩
theorem ok_pickT {f fn : Addr} {fd fdn : FuncData} (F : Fun K "_law_pick" "_law_pick" sPick f fd) (FN : Fun K "_law_next" "_law_next" sNext fn fdn) (GN : FnOk P w K mg base CX0 1 fn fdn ["stream", "many"] spNext) (bN : Binds K fdn ["stream", "many"] [])
    (gN : mg "_law_next" = some (.ref fn)) (ml : mg "len" = none) : FnOk P w K mg base CX0 2 f fd ["stream", "rows"] (spPickT K) := by
  refine F.ok scPick (fun vs H Q E h => ?_) (fun cdv A outer s H vs Q E hr h => ?_)
  · obtain ⟨l, s, r, xs, rfl, _⟩ := h
    rfl
  · obtain ⟨l, p, r, xs, rfl, hst, hr1, h0, h1, q⟩ := h
    refine ⟨_, pss_one (ps_ret (pe_ix ix_tup (pv 1) (pe_call GN (hr.mono (by decide)) (by rfl) gN FN.kp bN .nil pass0 (pa_cons (pv 0) (pa_cons (pe_callB call_len_seq (by rfl) ml PySem.boot_len (pa_cons (pv 1) pa_nil)) pa_nil))) (fun _ _ => rfl))), ?_⟩
    refine ⟨_, rfl, _, rfl, _, rfl, r, xs, rfl, .inr hr1, l, p, _, rfl, hst, by omega, by omega, fun d H' d0 d1 kp st => ?_⟩
    have hd : d.toNat < xs.length := by omega
    obtain ⟨_, _, _, _, _, _, hp, _⟩ := hst
    exact ⟨r, xs, d, xs[d.toNat], rfl, rfl, kp.tup hp hr1, at_of (by omega) (List.getElem?_eq_getElem hd), q _ _ _ (List.getElem?_eq_getElem hd) kp st⟩
theorem ok_string {f fn : Addr} {fd fdn : FuncData} (F : Fun K "_law_string" "_law_string" sString f fd) (FN : Fun K "_law_next" "_law_next" sNext fn fdn) (GN : FnOk P w K mg base CX0 1 fn fdn ["stream", "many"] spNext) (bN : Binds K fdn ["stream", "many"] [])
    (gN : mg "_law_next" = some (.ref fn)) (mr : mg "range" = none) : FnOk P w K mg base CX0 2 f fd ["stream", "least", "most", "letters"] spString := by
  refine F.ok scString (fun vs H Q E h => ?_) (fun cdv A outer s H vs Q E hr h => ?_)
  · obtain ⟨l, s, lo, hi, m, rfl, _⟩ := h
    rfl
  · obtain ⟨l, p, lo, hi, m, rfl, hst, h0, h1, h2, h3, h4, q⟩ := h
    refine ⟨_, pss_one (ps_ret (pe_join pe_str (pe_lc (own := [("k", 4)]) (g := gName 4) (tt := tYes) rfl scString.nd
      (pi_range1 rfl mr (pa_cons (pe_op op_add (pv 1) (pe_call GN (hr.mono (by decide)) (by rfl) gN FN.kp bN .nil pass0 (pa_cons (pv 0) (pa_cons (pe_op op_add (pe_op op_sub (pv 2) (pv 1)) pe_int) pa_nil)))) pa_nil))
      (blkOk_by (own := [("k", 4)]) (N := ["stream", "least", "most", "letters", "k"]) (sc := defScope sString) (by decide +kernel))
      (fun _ _ _ _ _ => pg_name (i := 4) scString.nd rfl (Or.inl rfl)) (fun _ _ _ _ _ => pts_nil)
      (fun _ _ _ _ _ => pe_ix ix_str pe_str (pe_call GN (hr.mono (by decide)) (by rfl) gN FN.kp bN .nil pass0 (pa_cons (pv 0) (pa_cons (pv 3) pa_nil))) (fun _ _ => rfl))))), ?_⟩
    refine ⟨⟨_, rfl⟩, _, rfl, _, rfl, _, rfl, _, rfl, hi, lo, rfl, rfl, _, _, rfl, rfl, l, p, _, rfl, hst, by omega, by omega, fun d H1 d0 d1 kp st => ?_⟩
    refine ⟨lo, d, rfl, rfl, _, rfl, by omega, by omega, fun D hD => ?_⟩
    have nD := st.ne hD
    refine lc_range (lo := 0) (n := (lo + d).toNat) (fun i H' => Keep p H H' ∧ Strm l H' p ∧ ∃ ys : List Str, H' D = some (.lst (ys.map V.str)) ∧ ys.length = i ∧ ∀ y ∈ ys, ∃ c : Nat, y = ⟨#[c]⟩ ∧ 97 ≤ c ∧ (c : Int) < 97 + m)
      ⟨kp.new hD, st.new hD, [], upd_same, rfl, fun y hy => by simp at hy⟩ (fun i H' hi hP => ?_) (fun H' hP => ?_)
    · obtain ⟨k2, st2, ys, hys, hl, hc⟩ := hP
      refine ⟨rfl, tYes_ok ⟨_, rfl, _, rfl, l, p, m, rfl, st2, h3, by omega, fun e H2 e0 e1 kp3 st3 => ?_⟩⟩
      obtain ⟨c, hc1, hc2, hc3⟩ := abc_at e0 e1 h4
      refine ⟨_, e, c, rfl, rfl, (by decide +kernel), hc1, _, kp3 _ _ nD.1 hys, ?_, ?_, st3.put nD.1 nD.2, ys ++ [⟨#[c]⟩], ?_, by rw [List.length_append, hl]; rfl, fun y hy => ?_⟩
      · rw [List.length_map, hl, sizeLine_eq]
        omega
      · intro b u nb hb
        have nbD : b ≠ D := by
          intro z
          rw [z] at hb nb
          have : H1 D = some u := kp _ _ nb hb
          rw [hD] at this
          cases this
        rw [upd_ne nbD]
        exact kp3 _ _ nb (k2 _ _ nb hb)
      · rw [upd_same, List.map_append]
        rfl
      · rcases List.mem_append.mp hy with hy | hy
        · exact hc y hy
        · rw [List.mem_singleton.mp hy]
          exact ⟨c, rfl, hc2, hc3⟩
    · obtain ⟨k2, st2, ys, hys, hl, hc⟩ := hP
      obtain ⟨g1, g2⟩ := lets_join hc
      have es : (ys.map (·.length)).sum = ys.length := by
        clear hys hl g1 g2
        induction ys with
        | nil => rfl
        | cons y ys ih =>
          obtain ⟨c, rfl, _⟩ := hc y List.mem_cons_self
          rw [List.map_cons, List.sum_cons, ih fun z hz => hc z (List.mem_cons_of_mem _ hz), List.length_cons, Nat.add_comm]
          rfl
      refine ⟨_, D, ys, rfl, rfl, .inl (SqL.of hys), ?_, q _ _ k2 st2 g1 (by rw [g2, hl]; omega) (by rw [g2, hl]; omega)⟩
      rw [es, hl, show ("" : Str).length = 0 from rfl]
      omega
theorem inV_str (z : Str) (ws : List Str) : inV (.str z) (ws.map V.str) = decide (z ∈ ws) := by
  unfold inV
  rw [List.any_map]
  by_cases h : z ∈ ws
  · rw [decide_eq_true h, List.any_eq_true]
    exact ⟨z, h, beq_self_eq_true z⟩
  · rw [decide_eq_false h, List.any_eq_false]
    intro y hy e
    have e' : (y == z) = true := e
    rw [beq_iff_eq.mp e'] at hy
    exact h hy
theorem ok_code {f fn fp fs : Addr} {fd fdn fdp fds : FuncData} (F : Fun K "_law_code" "_law_code" sCode f fd) (FN : Fun K "_law_next" "_law_next" sNext fn fdn) (GN : FnOk P w K mg base CX0 1 fn fdn ["stream", "many"] spNext) (bN : Binds K fdn ["stream", "many"] []) (gN : mg "_law_next" = some (.ref fn))
    (FP : Fun K "_law_pick" "_law_pick" sPick fp fdp) (GP : FnOk P w K mg base CX0 2 fp fdp ["stream", "rows"] spPick) (bP : Binds K fdp ["stream", "rows"] []) (gP : mg "_law_pick" = some (.ref fp))
    (FS : Fun K "_law_string" "_law_string" sString fs fds) (GS : FnOk P w K mg base CX0 2 fs fds ["stream", "least", "most", "letters"] spString) (bS : Binds K fds ["stream", "least", "most", "letters"] []) (gS : mg "_law_string" = some (.ref fs))
    (mr : mg "range" = none) (mt : mg "tuple" = none) : FnOk P w K mg base CX0 4 f fd ["stream", "many", "most"] spCode := by
  refine F.ok scCode (fun vs H Q E h => ?_) (fun cdv A outer s H vs Q E hr h => ?_)
  · obtain ⟨l, s, many, most, rfl, _⟩ := h
    rfl
  · obtain ⟨l, p, many, most, rfl, hst, h0, h1, h2, h3, q⟩ := h
    have hr1 : Room 1 _ := hr.mono (by decide)
    refine ⟨_, pss_cons (ps_set (i := 3) scCode.nd rfl (.inl rfl) (pe_call GP (hr.mono (by decide)) (by rfl) gP FP.kp bP .nil pass0 (pa_cons (pv 0) (pa_cons (pe_lst (pa_cons pe_int (pa_cons pe_int (pa_cons pe_int (pa_cons pe_int pa_nil))))) pa_nil))))
      (pss_cons (ps_set (i := 4) scCode.nd rfl (.inl rfl) (pe_lst pa_nil))
      (pss_cons (ps_for PassesOwn.never rfl (pi_range1 rfl mr (pa_cons (pe_call GN hr1 (by rfl) gN FN.kp bN .nil pass0 (pa_cons (pv 0) (pa_cons (pe_op op_add (pv 1) pe_int) pa_nil))) pa_nil)) (pg_name (i := 5) scCode.nd rfl (.inl rfl))
        (pss_cons (ps_set (i := 6) scCode.nd rfl (.inl rfl) (pe_call GS (hr.mono (by decide)) (by rfl) gS FS.kp bS .nil pass0 (pa_cons (pv 0) (pa_cons pe_int (pa_cons (pv 2) (pa_cons (pv 3) pa_nil))))))
        (pss_one (ps_expr (pe_bm PySem.F.plainAttrs_list PySem.F.slot_list_extend PySem.F.type_list_extend mt_extend (pv 4)
          (pa_cons (pe_ifExp (pt_cmpR op_notIn_seq (pv 6) (pv 4) (by rfl)) (pe_lst (pa_cons (pv 6) pa_nil)) (pe_lst pa_nil)) pa_nil))))))
      (pss_one (ps_ret (pe_callTy call_tuple_of (by rfl) mt (by decide +kernel) (pa_cons (pv 4) pa_nil)))))), ?_⟩
    refine ⟨_, rfl, (by show 4 ≤ sizeLine; decide), fun r nr => ?_⟩
    have ner := hst.ne nr
    refine ⟨l, p, r, _, rfl, hst.new nr, upd_same, ner.1, (by show 0 < 4; decide), (by show 4 ≤ 1000; decide), fun i x H1 hx kp st => ?_⟩
    have kp1 : Keep p H H1 := fun b u nb hb => kp _ _ nb (by rw [upd_ne (ne_of_none hb nr)]; exact hb)
    obtain ⟨m, rfl, hm0, hm3⟩ : ∃ m : Int, x = .int m ∧ 0 < m ∧ m ≤ 3 := by
      match i, hx with
      | 0, hx => exact ⟨2, (Option.some.inj hx).symm, by decide, by decide⟩
      | 1, hx => exact ⟨2, (Option.some.inj hx).symm, by decide, by decide⟩
      | 2, hx => exact ⟨3, (Option.some.inj hx).symm, by decide, by decide⟩
      | 3, hx => exact ⟨1, (Option.some.inj hx).symm, by decide, by decide⟩
    refine ⟨Nat.zero_le _, fun W hW => ?_⟩
    have nW := st.ne hW
    have hW0 : H W = none := by
      cases e : H W with
      | none => rfl
      | some u =>
        have := kp1 _ _ nW.1 e
        rw [hW] at this
        cases this
    refine ⟨_, rfl, _, rfl, _, 1, rfl, rfl, l, p, _, rfl, st.new hW, by omega, by omega, fun d H2 d0 d1 kp2 st2 => ?_⟩
    refine ⟨d, rfl, by omega, by omega, ?_⟩
    refine for_range (lo := 0) (n := d.toNat) (fun i σ H' => ∃ (ws : List Str) (y5 y6 : Option V), σ = [some (.ref p), some (.int many), some (.int most), some (.int m), some (.ref W), y5, y6] ∧ Keep p H H' ∧ Strm l H' p ∧ H' W = some (.lst (ws.map V.str)) ∧ ws.Nodup ∧ ws.length ≤ i ∧
      ∀ z ∈ ws, Lets 3 z ∧ 1 ≤ z.length ∧ (z.length : Int) ≤ most) ⟨[], none, none, rfl, ?_, st2, kp2 _ _ nW.1 upd_same, List.nodup_nil, Nat.le_refl _, fun z hz => by simp at hz⟩ (fun i σ H' hi hP => ?_) (fun σ H' hP => ?_)
    · intro b u nb hb
      exact kp2 _ _ nb (by rw [upd_ne (ne_of_none hb hW0)]; exact kp1 _ _ nb hb)
    · obtain ⟨ws, y5, y6, rfl, kp3, st3, hws, nd, hle, hz⟩ := hP
      refine ⟨_, rfl, _, rfl, _, rfl, l, p, 1, most, m, rfl, st3, by omega, h2, by omega, hm0, hm3, fun z H3 kp4 st4 hl4 hlo hhi => ?_⟩
      have hws3 := kp4 _ _ nW.1 hws
      have h64 : ws.length < 1000 := by omega
      refine ⟨_, rfl, .inl ⟨rfl, _, SqL.of hws3⟩, _, rfl, _, rfl, W, _, rfl, .inl (SqL.of hws3), rfl, flat_strs ws, _, rfl, ?_⟩
      have kpH : Keep p H H3 := kp3.trans kp4
      rw [if_pos rfl, inV_str]
      by_cases hin : z ∈ ws
      · rw [decide_eq_true hin]
        refine iteF ⟨Nat.zero_le _, fun g hg => ?_⟩
        have nWg : W ≠ g := ne_of_none hws3 hg
        refine ⟨W, g, _, [], rfl, rfl, by rw [upd_ne nWg]; exact hws3, upd_same, ?_, ws, _, _, rfl, (kpH.new hg).put' hW0, (st4.new hg).put nW.1 nW.2, by rw [upd_same, List.append_nil], nd, by omega, hz⟩
        rw [List.length_map, sizeLine_eq]
        show ws.length + 0 ≤ _
        omega
      · rw [decide_eq_false hin]
        refine iteT ⟨_, rfl, (by show 1 ≤ sizeLine; decide), fun g hg => ?_⟩
        have nWg : W ≠ g := ne_of_none hws3 hg
        refine ⟨W, g, _, _, rfl, rfl, by rw [upd_ne nWg]; exact hws3, upd_same, ?_, ws ++ [z], _, _, rfl, (kpH.new hg).put' hW0, (st4.new hg).put nW.1 nW.2, by rw [upd_same, List.map_append] <;> rfl, nodup_snoc.mpr ⟨nd, hin⟩, ?_, fun y hy => ?_⟩
        · rw [List.length_map, sizeLine_eq]
          show ws.length + 1 ≤ _
          omega
        · rw [List.length_append]
          show ws.length + 1 ≤ i + 1
          omega
        · rcases List.mem_append.mp hy with hy | hy
          · exact hz y hy
          · rw [List.mem_singleton.mp hy]
            refine ⟨fun c hc => ?_, by omega, hhi⟩
            have := hl4 c hc
            omega
    · obtain ⟨ws, y5, y6, rfl, kp3, st3, hws, nd, hle, hz⟩ := hP
      refine ⟨_, rfl, W, _, rfl, .inl ⟨SqL.of hws, fun c hc => ?_⟩⟩
      have hc0 : H c = none := by
        have nc := st3.ne hc
        cases e : H c with
        | none => rfl
        | some u =>
          have := kp3 _ _ nc.1 e
          rw [hc] at this
          cases this
      exact q c ws _ (kp3.new hc) (st3.new hc) hc0 upd_same nd (by omega) hz
end
end Sy
/-! Syncedwords, part 4: what a code and a string are, as the program tells. -/
namespace Sy
open PySem PySem.Spec PyProof.Rows L2
open C8 (pss_cut tCut)
abbrev sHas : Stmt := topS 5
abbrev sIsCode : Stmt := topS 7
abbrev sWords : Stmt := topS 6
abbrev sIsString : Stmt := topS 8
theorem scHas : FnScope ["value", "least", "most", "letter"] ["value", "least", "most"] (defScope sHas) := ⟨rfl, rfl, rfl, by decide +kernel, rfl, by decide +kernel, by decide +kernel⟩
theorem scWords : FnScope ["value", "many", "letters", "word"] ["value", "many", "letters"] (defScope sWords) := ⟨rfl, rfl, rfl, by decide +kernel, rfl, by decide +kernel, by decide +kernel⟩
theorem scIsCode : FnScope ["value"] ["value"] (defScope sIsCode) := ⟨rfl, rfl, rfl, by decide +kernel, rfl, by decide +kernel, by decide +kernel⟩
theorem scIsString : FnScope ["value"] ["value"] (defScope sIsString) := ⟨rfl, rfl, rfl, by decide +kernel, rfl, by decide +kernel, by decide +kernel⟩

/-! ### kinds of values -/
theorem TyX.same {K : PySem.W.Frag} {H H' : Hp} {x : V} {t : Value} (k : Same H H') (h : TyX K H x t) : TyX K H' x t := by
  cases h with
  | base b =>
    refine .base ?_
    cases b with
    | non => exact .non
    | bl y => exact .bl y
    | int i => exact .int i
    | str y => exact .str y
    | flt y => exact .flt y
    | lst e => exact .lst (k _ _ e)
    | frz e => exact .frz (k _ _ e)
    | tup e => exact .tup (k _ _ e)
    | dK e => exact .dK (k _ _ e)
    | dT e => exact .dT (k _ _ e)
    | ins e cl ha hn htk hm => exact .ins (k _ _ e) cl ha hn htk hm
  | byt b => exact .byt b
  | set e => exact .set (k _ _ e)
  | kList e c => exact .kList e c
  | kTuple e c => exact .kTuple e c
  | kDict e c => exact .kDict e c
  | fTuple e => exact .fTuple (k _ _ e)
  | fDict e => exact .fDict (k _ _ e)
theorem ty_tup {K : PySem.W.Frag} {H : Hp} {a : Addr} {xs : List V} (h : SqT K H a xs) : TyX K H (.ref a) (.type "tuple") := by
  rcases h with (h | ⟨o, h⟩) | ⟨o, its, n, h1, h2, _⟩
  · exact .base (.tup h)
  · exact .fTuple h
  · exact .kTuple h1 h2
theorem ty_lst {K : PySem.W.Frag} {H : Hp} {a : Addr} {xs : List V} (h : SqL K H a xs) : TyX K H (.ref a) (.type "list") := by
  rcases h with (h | ⟨o, h⟩) | ⟨o, its, n, h1, h2, _⟩
  · exact .base (.lst h)
  · exact .base (.frz h)
  · exact .kList h1 h2
theorem isi_ok {K : PySem.W.Frag} {H : Hp} {x : V} {t T : String} {b : Bool} {Q : VK} (ty : TyX K H x (.type t)) (k : kitB t T = some b) (q : Q (.bl b) H) : rIsi K [x, .ty T] H Q := ⟨x, .ty T, .type t, .type T, b, rfl, .ty T, ty, kit_ty k, q⟩

/-! ### what they ask, in plain words -/
/-- a letter of the three -/
def abc (c : Nat) : Bool := decide (c ∈ ("abc" : Str).cps.toList)
/-- so many letters, all of the three -/
def okTxt (z : Str) (lo hi : Int) : Bool := decide (lo ≤ z.length) && decide ((z.length : Int) ≤ hi) && (TL.tl z).all abc
def wordB : V → Bool
  | .str z => okTxt z 1 5
  | _ => false
def txtOf : V → Str
  | .str z => z
  | _ => ""
def codeB (xs : List V) : Bool := decide (xs.length ≤ 6) && xs.all wordB && decide ((met (xs.map txtOf)).length = xs.length)
/-- a text, or a value of a known kind that is none -/
def Wd (K : PySem.W.Frag) (H : Hp) (v : V) : Prop := (∃ z, v = .str z ∧ z.length ≤ 1000) ∨ (∃ t, TyX K H v (.type t) ∧ kitB t "str" = some false)
theorem Wd.same {K : PySem.W.Frag} {H H' : Hp} {v : V} (k : Same H H') (h : Wd K H v) : Wd K H' v := by
  rcases h with h | ⟨t, h, e⟩
  · exact .inl h
  · exact .inr ⟨t, TyX.same k h, e⟩
theorem wd_ty {K : PySem.W.Frag} {H : Hp} {v : V} {t : String} (h : TyX K H v (.type t)) (e : kitB t "str" = some false) : wordB v = false := by
  cases v with
  | str z =>
    cases h with
    | base b =>
      cases b
      have : kitB "str" "str" = some true := by decide +kernel
      rw [this] at e
      cases e
  | _ => rfl
def spHas (K : PySem.W.Frag) : Sp := fun vs H Q _ => ∃ (x : V) (lo hi : Int), vs = [x, .int lo, .int hi] ∧ ((∃ z, x = .str z ∧ z.length ≤ 1000 ∧ ∀ H', Same H H' → Q (.bl (okTxt z lo hi)) H') ∨ (∃ t, TyX K H x (.type t) ∧ kitB t "str" = some false ∧ Q (.bl false) H))
def spIsCode (K : PySem.W.Frag) : Sp := fun vs H Q _ => ∃ (x : V), vs = [x] ∧ ((∃ t, TyX K H x (.type t) ∧ kitB t "tuple" = some false ∧ Q (.bl false) H) ∨
  (∃ a xs, x = .ref a ∧ SqT K H a xs ∧ xs.length ≤ 1000 ∧ (∀ v ∈ xs, Wd K H v) ∧ ∀ H', Same H H' → Q (.bl (codeB xs)) H'))
def spWords (K : PySem.W.Frag) : Sp := fun vs H Q E => ∃ (x : V), vs = [x, .int 6, .int 5] ∧ spIsCode K [x] H Q E
def spIsString (K : PySem.W.Frag) : Sp := fun vs H Q _ => ∃ (x : V), vs = [x] ∧ ((∃ z, x = .str z ∧ z.length ≤ 1000 ∧ ∀ H', Same H H' → Q (.bl (okTxt z 0 24)) H') ∨ (∃ t, TyX K H x (.type t) ∧ kitB t "str" = some false ∧ Q (.bl false) H))

theorem Same.put' {p : Addr} {o : HO} {H H1 : Hp} (k : Same H H1) (n : H p = none) : Same H (upd H1 p o) := fun b u e => by
  rw [upd_ne (ne_of_none e n)]
  exact k b u e
theorem bl_all (bs : List Bool) {α : Type} (xs : List α) (f : α → Bool) (h : bs = xs.map f) : bs.all id = xs.all f := by
  rw [h, List.all_map]
  rfl
section
variable {P : Program} {w : World} {K : PySem.W.Frag} {mg : Str → Option Value} {base : Heap}
theorem ok_has {f : Addr} {fd : FuncData} {tL : Tok} (F : Fun K "has_letters" "has_letters" sHas f fd) (gL : mg "LETTERS" = some (.str "abc" tL)) (mi : mg "isinstance" = none) (ms : mg "str" = none) (ml : mg "len" = none) (ma : mg "all" = none) :
    FnOk P w K mg base CX0 1 f fd ["value", "least", "most"] (spHas K) := by
  refine F.ok scHas (fun vs H Q E h => ?_) (fun cdv A outer s H vs Q E hr h => ?_)
  · obtain ⟨x, lo, hi, rfl, _⟩ := h
    rfl
  · obtain ⟨x, lo, hi, rfl, h⟩ := h
    refine ⟨_, pss_cons (ps_if (PW.pt (pw_or (pt_not (pt_val (pe_callB call_isi (by rfl) mi (by decide +kernel) (pa_cons (pv 0) (pa_cons (pe_bltn (v := .ty "str") (by rfl) ms (by decide +kernel) rfl) pa_nil)))))
          (pw_or1 (pt_not (pt_chain op_le op_le (pv 1) (pe_callB call_len_str (by rfl) ml PySem.boot_len (pa_cons (pv 0) pa_nil)) (pv 2))))))
        (pss_one (ps_ret pe_bl)) pss_nil)
      (pss_one (ps_ret (pe_callB (cr_all rfl) (by rfl) ma (by decide +kernel) (pa_cons (pe_lc (own := [("letter", 3)]) (g := gName 3) (tt := tYes) rfl scHas.nd (pi_str (pv 0))
        (blkOk_by (own := [("letter", 3)]) (N := ["value", "least", "most", "letter"]) (sc := defScope sHas) (by decide +kernel))
        (fun _ _ _ _ _ => pg_name (i := 3) scHas.nd rfl (Or.inl rfl)) (fun _ _ _ _ _ => pts_nil)
        (fun _ _ _ _ _ => pe_cmpR op_in_sign (pv 3) (pe_glob (v := .str "abc") rfl gL ⟨_, rfl⟩) rfl)) pa_nil)))), ?_⟩
    rcases h with ⟨z, rfl, hz, q⟩ | ⟨t, ty, kt, q⟩
    · refine ⟨_, rfl, _, _, _, _, true, rfl, .ty "str", .base (.str z), kit_ty (by decide +kernel), true, rfl, ?_⟩
      refine iteF ⟨_, rfl, _, rfl, z, rfl, by rw [sizeLine_eq]; omega, _, _, rfl, rfl, _, rfl, ite2 (fun e1 => ?_) (fun e1 => ?_)⟩
      · have g1 := of_decide_eq_true e1
        refine ⟨_, rfl, _, _, rfl, rfl, _, rfl, ?_⟩
        by_cases g2 : (z.length : Int) ≤ hi
        · rw [decide_eq_true g2]
          refine iteF ?_
          -- all([..])
          refine ⟨_, rfl, z, rfl, fun D hD => ?_⟩
          refine lc_it walk_str (fun i H' => Same H H' ∧ H' D = some (.lst (((TL.tl z).take i).map fun c => V.bl (abc c)))) ⟨Same.new (Same.refl H) hD, by rw [upd_same]; rfl⟩ (fun _ _ _ _ => trivial) (fun i y H1 H' hi hP hy => ?_) (fun H' hP => ?_)
          · obtain ⟨sm, hl⟩ := hP
            obtain ⟨rfl, c, hc, rfl⟩ := hy
            refine ⟨rfl, tYes_ok ⟨_, rfl, c, _, rfl, rfl, _, hl, ?_, Same.put' sm hD, ?_⟩⟩
            · have hlen := TL.len_tl z
              rw [List.length_map, List.length_take, sizeLine_eq]
              omega
            · have hc' : (TL.tl z)[i]? = some c := by
                rw [Array.getElem?_toList]
                exact hc
              rw [upd_same, List.take_add_one, hc', List.map_append]
              rfl
          · obtain ⟨sm, hl⟩ := hP
            rw [show (TL.tl z).take z.cps.size = TL.tl z from List.take_of_length_le (by simp)] at hl
            refine ⟨D, (TL.tl z).map abc, rfl, SqL.of (by rw [List.map_map]; exact hl), ?_⟩
            have e : okTxt z lo hi = ((TL.tl z).map abc).all id := by
              unfold okTxt
              rw [decide_eq_true g1, decide_eq_true g2, List.all_map]
              rfl
            rw [← e]
            exact q _ sm
        · rw [decide_eq_false g2]
          refine iteT ?_
          have e : okTxt z lo hi = false := by
            unfold okTxt
            rw [decide_eq_false g2, Bool.and_false, Bool.false_and]
          have := q H (Same.refl H)
          rw [e] at this
          exact this
      · have e : okTxt z lo hi = false := by
          unfold okTxt
          rw [show decide (lo ≤ (z.length : Int)) = false from by simpa using e1, Bool.false_and, Bool.false_and]
        refine ⟨_, rfl, iteT ?_⟩
        have := q H (Same.refl H)
        rw [e] at this
        exact this
    · exact ⟨_, rfl, _, _, _, _, false, rfl, .ty "str", ty, kit_ty kt, false, rfl, iteT (iteT q)⟩
theorem ok_words {f fh : Addr} {fd fdh : FuncData} (F : Fun K "are_words" "are_words" sWords f fd) (FH : Fun K "has_letters" "has_letters" sHas fh fdh) (GH : FnOk P w K mg base CX0 1 fh fdh ["value", "least", "most"] (spHas K)) (bH : Binds K fdh ["value", "least", "most"] [])
    (gH : mg "has_letters" = some (.ref fh)) (mi : mg "isinstance" = none) (mt : mg "tuple" = none) (ml : mg "len" = none) (ma : mg "all" = none) (ms : mg "set" = none) :
    FnOk P w K mg base CX0 2 f fd ["value", "many", "letters"] (spWords K) := by
  refine F.ok scWords (fun vs H Q E h => ?_) (fun cdv A outer s H vs Q E hr h => ?_)
  · obtain ⟨y, rfl, x, e, _⟩ := h
    rfl
  · obtain ⟨x, rfl, y, e, h⟩ := h
    cases e
    refine ⟨_, pss_cons (ps_if (PW.pt (pw_or (pt_not (pt_val (pe_callB call_isi (by rfl) mi (by decide +kernel) (pa_cons (pv 0) (pa_cons (pe_bltn (v := .ty "tuple") (by rfl) mt (by decide +kernel) rfl) pa_nil)))))
          (pw_or1 (pt_cmpR op_gt (pe_callB call_len_seq (by rfl) ml PySem.boot_len (pa_cons (pv 0) pa_nil)) (pv 1) (nomark _)))))
        (pss_one (ps_ret pe_bl)) pss_nil)
      (pss_cons (ps_if (pt_not (pt_val (pe_callB (cr_all rfl) (by rfl) ma (by decide +kernel) (pa_cons (pe_lc (own := [("word", 3)]) (g := gName 3) (tt := tYes) rfl scWords.nd (pi_tup (pv 0))
        (blkOk_by (own := [("word", 3)]) (N := ["value", "many", "letters", "word"]) (sc := defScope sWords) (by decide +kernel))
        (fun _ _ _ _ _ => pg_name (i := 3) scWords.nd rfl (Or.inl rfl)) (fun _ _ _ _ _ => pts_nil)
        (fun _ _ _ _ _ => pe_call GH (hr.mono (by decide)) (by rfl) gH FH.kp bH .nil pass0 (pa_cons (pv 3) (pa_cons pe_int (pa_cons (pv 2) pa_nil))))) pa_nil))))
        (pss_one (ps_ret pe_bl)) pss_nil)
      (pss_one (ps_ret (pe_cmpR op_eq (pe_lenTxt rfl (by rfl) ml (by rfl) ms (pv 0)) (pe_callB call_len_seq (by rfl) ml PySem.boot_len (pa_cons (pv 0) pa_nil)) (nomark _))))), ?_⟩
    rcases h with ⟨t, ty, kt, q⟩ | ⟨a, xs, rfl, hT, hle, hw, q⟩
    · exact ⟨_, rfl, _, _, _, _, false, rfl, .ty "tuple", ty, kit_ty kt, false, rfl, iteT (iteT q)⟩
    · refine ⟨_, rfl, _, _, _, _, true, rfl, .ty "tuple", ty_tup hT, kit_ty (by decide +kernel), true, rfl, iteF ⟨_, rfl, a, xs, rfl, .inr hT, _, rfl, _, _, rfl, rfl, _, rfl, ?_⟩⟩
      by_cases h6 : (6 : Int) < xs.length
      · rw [decide_eq_true h6]
        have e : codeB xs = false := by
          unfold codeB
          rw [decide_eq_false (show ¬ xs.length ≤ 6 by omega), Bool.false_and, Bool.false_and]
        have := q H (Same.refl H)
        rw [e] at this
        exact iteT this
      · rw [decide_eq_false h6]
        refine iteF ?_
        refine ⟨_, rfl, a, rfl, ⟨xs, hT⟩, fun D hD => ?_⟩
        refine lc_tup (xs := xs) (fun i H' => Same H H' ∧ H' D = some (.lst ((xs.take i).map fun v => V.bl (wordB v)))) ⟨Same.new (Same.refl H) hD, by rw [upd_same]; rfl⟩ (fun i H' _ hP => Same.tup hP.1 hT) (fun i x H1 hx hP => ?_) (fun H' hP => ?_)
        · obtain ⟨sm, hl⟩ := hP
          have hxm : x ∈ xs := List.mem_of_getElem? hx
          have fin : ∀ H', Same H1 H' → ∃ acc, H' D = some (.lst acc) ∧ acc.length < sizeLine ∧ Same H (upd H' D (.lst (acc ++ [.bl (wordB x)]))) ∧ (upd H' D (.lst (acc ++ [.bl (wordB x)]))) D = some (.lst ((xs.take (i + 1)).map fun v => V.bl (wordB v))) := fun H' s2 => by
            refine ⟨_, s2 _ _ hl, ?_, Same.put' (sm.trans s2) hD, ?_⟩
            · rw [List.length_map, List.length_take, sizeLine_eq]
              omega
            · rw [upd_same, List.take_add_one, hx, List.map_append]
              rfl
          rcases hw x hxm with ⟨z, rfl, hz⟩ | ⟨t, ty, kt⟩
          · exact ⟨rfl, tYes_ok ⟨_, rfl, _, rfl, _, 1, 5, rfl, .inl ⟨z, rfl, hz, fin⟩⟩⟩
          · refine ⟨rfl, tYes_ok ⟨_, rfl, _, rfl, _, 1, 5, rfl, .inr ⟨t, TyX.same sm ty, kt, ?_⟩⟩⟩
            have := fin H1 (Same.refl H1)
            rw [wd_ty ty kt] at this
            exact this
        · obtain ⟨sm, hl⟩ := hP
          rw [List.take_length] at hl
          refine ⟨D, xs.map wordB, rfl, SqL.of (by rw [List.map_map]; exact hl), _, rfl, ?_⟩
          have ea : (xs.map wordB).all id = xs.all wordB := by
            rw [List.all_map]
            rfl
          rw [ea]
          cases hb : xs.all wordB with
          | false =>
            have e : codeB xs = false := by
              unfold codeB
              rw [hb, Bool.and_false, Bool.false_and]
            have := q H' sm
            rw [e] at this
            exact iteT this
          | true =>
            have es : xs = (xs.map txtOf).map V.str := by
              rw [List.map_map]
              have hall := List.all_eq_true.mp hb
              clear hT hle hw q h6 hl hb ea hD
              induction xs with
              | nil => rfl
              | cons v xs ih =>
                rw [List.map_cons, ← ih fun y hy => hall y (List.mem_cons_of_mem _ hy)]
                have hv := hall v List.mem_cons_self
                cases v with
                | str z => rfl
                | _ => cases hv
            refine iteF ⟨_, rfl, a, xs.map txtOf, rfl, by rw [← es]; exact Same.tup sm hT, by rw [List.length_map]; exact hle, _, rfl, a, xs, rfl, .inr (Same.tup sm hT), rfl, ?_⟩
            have e : codeB xs = decide (V.int ((met (xs.map txtOf)).length : Nat) = V.int xs.length) := by
              unfold codeB
              rw [hb, decide_eq_true (show xs.length ≤ 6 by omega), Bool.true_and, Bool.true_and]
              by_cases h : (met (xs.map txtOf)).length = xs.length
              · rw [decide_eq_true h, h, decide_eq_true rfl]
              · rw [decide_eq_false h, decide_eq_false]
                intro z
                injection z with z
                omega
            rw [← e]
            exact q H' sm
theorem ok_iscode {f fw : Addr} {fd fdw : FuncData} {t6 t5 : Tok} (F : Fun K "is_code" "is_code" sIsCode f fd) (GW : FnOk P w K mg base CX0 2 fw fdw ["value", "many", "letters"] (spWords K)) (kW : PySem.W.keepIn K (.ref fw) = true) (bW : Binds K fdw ["value", "many", "letters"] [])
    (gW : mg "are_words" = some (.ref fw)) (g6 : mg "MOST_WORDS" = some (.int 6 t6)) (g5 : mg "MOST_WORD_LETTERS" = some (.int 5 t5)) : FnOk P w K mg base CX0 3 f fd ["value"] (spIsCode K) := by
  refine F.ok scIsCode (fun vs H Q E h => ?_) (fun cdv A outer s H vs Q E hr h => ?_)
  · obtain ⟨x, rfl, _⟩ := h
    rfl
  · obtain ⟨x, rfl, h⟩ := h
    exact ⟨_, pss_one (ps_ret (pe_call GW (hr.mono (by decide)) (by rfl) gW kW bW .nil pass0 (pa_cons (pv 0) (pa_cons (pe_glob (v := .int 6) rfl g6 ⟨_, rfl⟩) (pa_cons (pe_glob (v := .int 5) rfl g5 ⟨_, rfl⟩) pa_nil))))), _, rfl, x, rfl, _, rfl, h⟩
theorem ok_isstring {f fh : Addr} {fd fdh : FuncData} {t24 : Tok} (F : Fun K "is_string" "is_string" sIsString f fd) (FH : Fun K "has_letters" "has_letters" sHas fh fdh) (GH : FnOk P w K mg base CX0 1 fh fdh ["value", "least", "most"] (spHas K)) (bH : Binds K fdh ["value", "least", "most"] [])
    (gH : mg "has_letters" = some (.ref fh)) (g24 : mg "MOST_STRING_LETTERS" = some (.int 24 t24)) : FnOk P w K mg base CX0 3 f fd ["value"] (spIsString K) := by
  refine F.ok scIsString (fun vs H Q E h => ?_) (fun cdv A outer s H vs Q E hr h => ?_)
  · obtain ⟨x, rfl, _⟩ := h
    rfl
  · obtain ⟨x, rfl, h⟩ := h
    refine ⟨_, pss_one (ps_ret (pe_call GH (hr.mono (by decide)) (by rfl) gH FH.kp bH .nil pass0 (pa_cons (pv 0) (pa_cons pe_int (pa_cons (pe_glob (v := .int 24) rfl g24 ⟨_, rfl⟩) pa_nil))))), ?_⟩
    exact ⟨_, rfl, x, 0, 24, rfl, h⟩
end
end Sy
/-! Syncedwords, part 5: equal data are found equal. -/
namespace Sy
open PySem PySem.Spec PyProof.Rows L2
open C8 (pss_cut tCut)
abbrev sIsInt : Stmt := topS 12
abbrev sEqual : Stmt := topS 13
theorem scIsInt : FnScope ["actual"] ["actual"] (defScope sIsInt) := ⟨rfl, rfl, rfl, by decide +kernel, rfl, by decide +kernel, by decide +kernel⟩
theorem scEqual : FnScope ["actual", "due", "at"] ["actual", "due"] (defScope sEqual) := ⟨rfl, rfl, rfl, by decide +kernel, rfl, by decide +kernel, by decide +kernel⟩
mutual
theorem Dp.same {K : PySem.W.Frag} {H H' : Hp} (k : Same H H') : ∀ (d : PyData) (v : V), Dp K H v d → Dp K H' v d
  | .none, _, h => by cases h; exact .non
  | .bool b, _, h => by cases h; exact .bl b
  | .int i, _, h => by cases h; exact .int i
  | .str x, _, h => by cases h; exact .str x
  | .list ds, _, h => by
    cases h with
    | lst hs ha => exact .lst (k.seq hs) (Dp.sameAll k ds _ ha)
  | .tuple ds, _, h => by
    cases h with
    | tup hs ha => exact .tup (Same.tup k hs) (Dp.sameAll k ds _ ha)
  | .dict _, _, h => by cases h
theorem Dp.sameAll {K : PySem.W.Frag} {H H' : Hp} (k : Same H H') : ∀ (ds : List PyData) (vs : List V), DpAll K H vs ds → DpAll K H' vs ds
  | [], _, h => by cases h; exact .nil
  | d :: ds, _, h => by
    cases h with
    | cons a b => exact .cons (Dp.same k d _ a) (Dp.sameAll k ds _ b)
end
theorem DpAll.len {K : PySem.W.Frag} {H : Hp} : ∀ {vs : List V} {ds : List PyData}, DpAll K H vs ds → vs.length = ds.length
  | _, _, .nil => rfl
  | _, _, .cons _ b => by rw [List.length_cons, List.length_cons, DpAll.len b]
theorem DpAll.get {K : PySem.W.Frag} {H : Hp} : ∀ {vs : List V} {ds : List PyData} {i : Nat} {d : PyData}, DpAll K H vs ds → ds[i]? = some d → ∃ v, vs[i]? = some v ∧ Dp K H v d
  | _, _, _, _, .nil, h => by simp at h
  | _, _, 0, _, .cons a _, h => by
    cases Option.some.inj h
    exact ⟨_, rfl, a⟩
  | _, _, i + 1, _, .cons _ b, h => DpAll.get (i := i) b h
/-- data of at most n levels, no list longer than a number -/
def okD : Nat → PyData → Prop
  | 0, _ => False
  | n + 1, .list ds => ds.length ≤ 100000 ∧ ∀ d ∈ ds, okD n d
  | n + 1, .tuple ds => ds.length ≤ 100000 ∧ ∀ d ∈ ds, okD n d
  | _ + 1, .dict _ => False
  | _ + 1, _ => True
def spIsInt : Sp := fun vs H Q _ => ∃ i : Int, vs = [.int i] ∧ Q (.bl true) H
def spEqual (K : PySem.W.Frag) (n : Nat) : Sp := fun vs H Q _ => ∃ (x y : V) (d : PyData), vs = [x, y] ∧ Dp K H x d ∧ Dp K H y d ∧ okD n d ∧ ∀ H', Same H H' → Q (.bl true) H'

section
variable {P : Program} {w : World} {K : PySem.W.Frag} {mg : Str → Option Value} {base : Heap}
theorem ok_isint {f : Addr} {fd : FuncData} (F : Fun K "_law_is_integer" "_law_is_integer" sIsInt f fd) (mi : mg "isinstance" = none) (mn : mg "int" = none) (mb : mg "bool" = none) : FnOk P w K mg base CX0 1 f fd ["actual"] spIsInt := by
  refine F.ok scIsInt (fun vs H Q E h => ?_) (fun cdv A outer s H vs Q E hr h => ?_)
  · obtain ⟨i, rfl, _⟩ := h
    rfl
  · obtain ⟨i, rfl, q⟩ := h
    refine ⟨_, pss_one (ps_ret (pe_and (pe_callB call_isi (by rfl) mi (by decide +kernel) (pa_cons (pv 0) (pa_cons (pe_bltn (v := .ty "int") (by rfl) mn (by decide +kernel) rfl) pa_nil)))
      (pe_one (pe_not (pe_callB call_isi (by rfl) mi (by decide +kernel) (pa_cons (pv 0) (pa_cons (pe_bltn (v := .ty "bool") (by rfl) mb (by decide +kernel) rfl) pa_nil))))))), ?_⟩
    exact ⟨_, rfl, _, _, _, _, true, rfl, .ty "int", .base (.int i), kit_ty (by decide +kernel), true, rfl, iteT ⟨_, rfl, _, _, _, _, false, rfl, .ty "bool", .base (.int i), kit_ty (by decide +kernel), false, rfl, q⟩⟩
theorem ok_equal {f fi : Addr} {fd fdi : FuncData} (F : Fun K "_law_equal" "_law_equal" sEqual f fd) (bF : Binds K fd ["actual", "due"] []) (gF : mg "_law_equal" = some (.ref f))
    (FI : Fun K "_law_is_integer" "_law_is_integer" sIsInt fi fdi) (GI : FnOk P w K mg base CX0 1 fi fdi ["actual"] spIsInt) (bI : Binds K fdi ["actual"] []) (gI : mg "_law_is_integer" = some (.ref fi))
    (mi : mg "isinstance" = none) (mb : mg "bool" = none) (mn : mg "int" = none) (ms : mg "str" = none) (mt : mg "tuple" = none) (mL : mg "list" = none) (ml : mg "len" = none) (ma : mg "all" = none) (mr : mg "range" = none) :
    ∀ n, FnOk P w K mg base CX0 (n + 1) f fd ["actual", "due"] (spEqual K n)
  | 0 => ⟨fun vs H Q E h => (let ⟨_, _, _, e, _⟩ := h; by rw [e]; rfl), fun A outer s H args us vs Q E hr e0 hb hv h => (let ⟨_, _, _, _, _, _, z, _⟩ := h; z.elim)⟩
  | n + 1 => by
    have GE := ok_equal F bF gF FI GI bI gI mi mb mn ms mt mL ml ma mr n
    refine F.ok scEqual (fun vs H Q E h => ?_) (fun cdv A outer s H vs Q E hr h => ?_)
    · obtain ⟨x, y, d, rfl, _⟩ := h
      rfl
    · obtain ⟨x, y, d, rfl, hx, hy, hd, q⟩ := h
      have hr1 : Room 1 _ := hr.mono (by omega)
      refine ⟨_, pss_cons (ps_if (pt_cmpR op_isN (pv 1) pe_non (nomark _)) (pss_one (ps_ret (pe_cmpR op_isN (pv 0) pe_non (nomark _)))) pss_nil)
        (pss_cons (ps_if (pt_val (pe_callB call_isi (by rfl) mi (by decide +kernel) (pa_cons (pv 1) (pa_cons (pe_bltn (v := .ty "bool") (by rfl) mb (by decide +kernel) rfl) pa_nil))))
          (pss_one (ps_ret (pe_and (pe_callB call_isi (by rfl) mi (by decide +kernel) (pa_cons (pv 0) (pa_cons (pe_bltn (v := .ty "bool") (by rfl) mb (by decide +kernel) rfl) pa_nil))) (pe_one (pe_cmpR op_eq (pv 0) (pv 1) (nomark _)))))) pss_nil)
        (pss_cons (ps_if (pt_val (pe_callB call_isi (by rfl) mi (by decide +kernel) (pa_cons (pv 1) (pa_cons (pe_bltn (v := .ty "int") (by rfl) mn (by decide +kernel) rfl) pa_nil))))
          (pss_one (ps_ret (pe_and (pe_call GI hr1 (by rfl) gI FI.kp bI .nil pass0 (pa_cons (pv 0) pa_nil)) (pe_one (pe_cmpR op_eq (pv 0) (pv 1) (nomark _)))))) pss_nil)
        (pss_cons (ps_if (pt_val (pe_callB call_isi (by rfl) mi (by decide +kernel) (pa_cons (pv 1) (pa_cons (pe_bltn (v := .ty "str") (by rfl) ms (by decide +kernel) rfl) pa_nil))))
          (pss_one (ps_ret (pe_and (pe_callB call_isi (by rfl) mi (by decide +kernel) (pa_cons (pv 0) (pa_cons (pe_bltn (v := .ty "str") (by rfl) ms (by decide +kernel) rfl) pa_nil))) (pe_one (pe_cmpR op_eq (pv 0) (pv 1) (nomark _)))))) pss_nil)
        (pss_cons (ps_if (PW.pt (pw_and (pt_val (pe_callB call_isi (by rfl) mi (by decide +kernel) (pa_cons (pv 1) (pa_cons (pe_bltn (v := .ty "tuple") (by rfl) mt (by decide +kernel) rfl) pa_nil))))
          (pw_and1 (pt_not (pt_val (pe_callB call_isi (by rfl) mi (by decide +kernel) (pa_cons (pv 0) (pa_cons (pe_bltn (v := .ty "tuple") (by rfl) mt (by decide +kernel) rfl) pa_nil)))))))) pss_never pss_nil)
        (pss_cons (ps_if (PW.pt (pw_and (pt_val (pe_callB call_isi (by rfl) mi (by decide +kernel) (pa_cons (pv 1) (pa_cons (pe_bltn (v := .ty "list") (by rfl) mL (by decide +kernel) rfl) pa_nil))))
          (pw_and1 (pt_not (pt_val (pe_callB call_isi (by rfl) mi (by decide +kernel) (pa_cons (pv 0) (pa_cons (pe_bltn (v := .ty "list") (by rfl) mL (by decide +kernel) rfl) pa_nil)))))))) pss_never pss_nil)
        (pss_cons (ps_if (pt_cmpR op_ne (pe_callB call_len_seq (by rfl) ml PySem.boot_len (pa_cons (pv 0) pa_nil)) (pe_callB call_len_seq (by rfl) ml PySem.boot_len (pa_cons (pv 1) pa_nil)) (nomark _)) pss_never pss_nil)
        (pss_one (ps_ret (pe_callB (cr_all rfl) (by rfl) ma (by decide +kernel) (pa_cons (pe_lc (own := [("at", 2)]) (g := gName 2) (tt := tYes) rfl scEqual.nd
          (pi_range1 rfl mr (pa_cons (pe_callB call_len_seq (by rfl) ml PySem.boot_len (pa_cons (pv 1) pa_nil)) pa_nil))
          (blkOk_by (own := [("at", 2)]) (N := ["actual", "due", "at"]) (sc := defScope sEqual) (by decide +kernel))
          (fun _ _ _ _ _ => pg_name (i := 2) scEqual.nd rfl (Or.inl rfl)) (fun _ _ _ _ _ => pts_nil)
          (fun _ _ _ _ _ => pe_call GE hr (by rfl) gF F.kp bF .nil pass0 (pa_cons (pe_ix (r := rIx K) ix_seq (pv 0) (pv 2) (fun _ _ => rfl)) (pa_cons (pe_ix (r := rIx K) ix_seq (pv 1) (pv 2) (fun _ _ => rfl)) pa_nil)))) pa_nil)))))))))), ?_⟩
      cases d with
      | none =>
        cases hx
        cases hy
        exact ⟨_, rfl, rfl, _, rfl, iteT ⟨_, rfl, rfl, q H (Same.refl H)⟩⟩
      | bool b =>
        cases hx
        cases hy
        refine ⟨_, rfl, rfl, _, rfl, iteF ⟨_, rfl, _, _, _, _, true, rfl, .ty "bool", .base (.bl b), kit_ty (by decide +kernel), _, rfl, iteT ⟨_, rfl, _, _, _, _, true, rfl, .ty "bool", .base (.bl b), kit_ty (by decide +kernel), _, rfl, iteT ⟨_, rfl, _, rfl, rfl, ?_⟩⟩⟩⟩
        rw [decide_eq_true rfl]
        exact q H (Same.refl H)
      | int i =>
        cases hx
        cases hy
        refine ⟨_, rfl, rfl, _, rfl, iteF ⟨_, rfl, _, _, _, _, false, rfl, .ty "bool", .base (.int i), kit_ty (by decide +kernel), _, rfl, iteF ⟨_, rfl, _, _, _, _, true, rfl, .ty "int", .base (.int i), kit_ty (by decide +kernel), _, rfl, iteT ⟨_, rfl, i, rfl, true, rfl, iteT ⟨_, rfl, _, rfl, rfl, ?_⟩⟩⟩⟩⟩
        rw [decide_eq_true rfl]
        exact q H (Same.refl H)
      | str z =>
        cases hx
        cases hy
        refine ⟨_, rfl, rfl, _, rfl, iteF ⟨_, rfl, _, _, _, _, false, rfl, .ty "bool", .base (.str z), kit_ty (by decide +kernel), _, rfl, iteF ⟨_, rfl, _, _, _, _, false, rfl, .ty "int", .base (.str z), kit_ty (by decide +kernel), _, rfl,
          iteF ⟨_, rfl, _, _, _, _, true, rfl, .ty "str", .base (.str z), kit_ty (by decide +kernel), _, rfl, iteT ⟨_, rfl, _, _, _, _, true, rfl, .ty "str", .base (.str z), kit_ty (by decide +kernel), _, rfl, iteT ⟨_, rfl, _, rfl, rfl, ?_⟩⟩⟩⟩⟩⟩
        rw [decide_eq_true rfl]
        exact q H (Same.refl H)
      | dict _ => exact hd.elim
      | list ds =>
        obtain ⟨hd1, hd2⟩ := hd
        cases hx with
        | @lst a xs _ sx ax =>
          cases hy with
          | @lst b ys _ sy ay =>
            have lx := DpAll.len ax
            have ly := DpAll.len ay
            refine ⟨_, rfl, rfl, _, rfl, iteF ?_⟩
            refine ⟨_, rfl, _, _, _, _, false, rfl, .ty "bool", ty_lst sy, kit_ty (by decide +kernel), _, rfl, iteF ?_⟩
            refine ⟨_, rfl, _, _, _, _, false, rfl, .ty "int", ty_lst sy, kit_ty (by decide +kernel), _, rfl, iteF ?_⟩
            refine ⟨_, rfl, _, _, _, _, false, rfl, .ty "str", ty_lst sy, kit_ty (by decide +kernel), _, rfl, iteF ?_⟩
            refine ⟨_, rfl, _, _, _, _, false, rfl, .ty "tuple", ty_lst sy, kit_ty (by decide +kernel), _, rfl, iteF (iteF ?_)⟩
            refine ⟨_, rfl, _, _, _, _, true, rfl, .ty "list", ty_lst sy, kit_ty (by decide +kernel), _, rfl, iteT ?_⟩
            refine ⟨_, rfl, _, _, _, _, true, rfl, .ty "list", ty_lst sx, kit_ty (by decide +kernel), _, rfl, iteF ?_⟩
            refine ⟨_, rfl, a, xs, rfl, .inl sx, _, rfl, b, ys, rfl, .inl sy, rfl, _, rfl, iteNS (by rw [lx, ly]) ?_⟩
            refine ⟨_, rfl, b, ys, rfl, .inl sy, _, rfl, by omega, by omega, fun D hD => ?_⟩
            refine lc_range (lo := 0) (n := (ys.length : Int).toNat) (fun i H' => Same H H' ∧ H' D = some (.lst ((List.replicate i true).map V.bl))) ⟨Same.new (Same.refl H) hD, by rw [upd_same]; rfl⟩ (fun i H1 hi hP => ?_) (fun H' hP => ?_)
            · obtain ⟨sm, hl⟩ := hP
              have hid : i < ds.length := by omega
              have gd := List.getElem?_eq_getElem hid
              obtain ⟨v, gv, dv⟩ := DpAll.get ax gd
              obtain ⟨u, gu, du⟩ := DpAll.get ay gd
              refine ⟨rfl, tYes_ok ?_⟩
              refine ⟨_, rfl, _, rfl, .inl ⟨a, xs, _, v, rfl, rfl, sm.seq sx, at_of (by omega) gv, ?_⟩⟩
              refine ⟨_, rfl, _, rfl, .inl ⟨b, ys, _, u, rfl, rfl, sm.seq sy, at_of (by omega) gu, ?_⟩⟩
              refine ⟨v, u, ds[i], rfl, Dp.same sm _ _ dv, Dp.same sm _ _ du, hd2 _ (List.getElem_mem hid), fun H2 s2 => ⟨_, s2 _ _ hl, ?_, Same.put' (sm.trans s2) hD, ?_⟩⟩
              · rw [List.length_map, List.length_replicate, sizeLine_eq]
                omega
              · rw [upd_same, List.replicate_succ', List.map_append]
                rfl
            · obtain ⟨sm, hl⟩ := hP
              refine ⟨D, _, rfl, SqL.of hl, ?_⟩
              rw [show (List.replicate (ys.length : Int).toNat true).all id = true from List.all_eq_true.mpr fun z hz => by rw [List.eq_of_mem_replicate hz]; rfl]
              exact q _ sm
      | tuple ds =>
        obtain ⟨hd1, hd2⟩ := hd
        cases hx with
        | @tup a xs _ sx ax =>
          cases hy with
          | @tup b ys _ sy ay =>
            have lx := DpAll.len ax
            have ly := DpAll.len ay
            refine ⟨_, rfl, rfl, _, rfl, iteF ?_⟩
            refine ⟨_, rfl, _, _, _, _, false, rfl, .ty "bool", ty_tup sy, kit_ty (by decide +kernel), _, rfl, iteF ?_⟩
            refine ⟨_, rfl, _, _, _, _, false, rfl, .ty "int", ty_tup sy, kit_ty (by decide +kernel), _, rfl, iteF ?_⟩
            refine ⟨_, rfl, _, _, _, _, false, rfl, .ty "str", ty_tup sy, kit_ty (by decide +kernel), _, rfl, iteF ?_⟩
            refine ⟨_, rfl, _, _, _, _, true, rfl, .ty "tuple", ty_tup sy, kit_ty (by decide +kernel), _, rfl, iteT ?_⟩
            refine ⟨_, rfl, _, _, _, _, true, rfl, .ty "tuple", ty_tup sx, kit_ty (by decide +kernel), _, rfl, iteF ?_⟩
            refine ⟨_, rfl, _, _, _, _, false, rfl, .ty "list", ty_tup sy, kit_ty (by decide +kernel), _, rfl, iteF (iteF ?_)⟩
            refine ⟨_, rfl, a, xs, rfl, .inr sx, _, rfl, b, ys, rfl, .inr sy, rfl, _, rfl, iteNS (by rw [lx, ly]) ?_⟩
            refine ⟨_, rfl, b, ys, rfl, .inr sy, _, rfl, by omega, by omega, fun D hD => ?_⟩
            refine lc_range (lo := 0) (n := (ys.length : Int).toNat) (fun i H' => Same H H' ∧ H' D = some (.lst ((List.replicate i true).map V.bl))) ⟨Same.new (Same.refl H) hD, by rw [upd_same]; rfl⟩ (fun i H1 hi hP => ?_) (fun H' hP => ?_)
            · obtain ⟨sm, hl⟩ := hP
              have hid : i < ds.length := by omega
              have gd := List.getElem?_eq_getElem hid
              obtain ⟨v, gv, dv⟩ := DpAll.get ax gd
              obtain ⟨u, gu, du⟩ := DpAll.get ay gd
              refine ⟨rfl, tYes_ok ?_⟩
              refine ⟨_, rfl, _, rfl, .inr (.inl ⟨a, xs, _, v, rfl, rfl, Same.tup sm sx, at_of (by omega) gv, ?_⟩)⟩
              refine ⟨_, rfl, _, rfl, .inr (.inl ⟨b, ys, _, u, rfl, rfl, Same.tup sm sy, at_of (by omega) gu, ?_⟩)⟩
              refine ⟨v, u, ds[i], rfl, Dp.same sm _ _ dv, Dp.same sm _ _ du, hd2 _ (List.getElem_mem hid), fun H2 s2 => ⟨_, s2 _ _ hl, ?_, Same.put' (sm.trans s2) hD, ?_⟩⟩
              · rw [List.length_map, List.length_replicate, sizeLine_eq]
                omega
              · rw [upd_same, List.replicate_succ', List.map_append]
                rfl
            · obtain ⟨sm, hl⟩ := hP
              refine ⟨D, _, rfl, SqL.of hl, ?_⟩
              rw [show (List.replicate (ys.length : Int).toNat true).all id = true from List.all_eq_true.mpr fun z hz => by rw [List.eq_of_mem_replicate hz]; rfl]
              exact q _ sm
end
end Sy
/-! Syncedwords, part 6: slices and sums of tuples by their items, a list of a text's signs, what stays when lists change. -/
namespace L2
open PySem PySem.Spec PyProof.Rows
section
variable {X : Cx}
/-- t + u: some tuple of both -/
def rCatSy (K : PySem.W.Frag) : R2 := fun x y H Q => ∃ a b xs ys, x = .ref a ∧ y = .ref b ∧ SqT K H a xs ∧ SqT K H b ys ∧ xs.length + ys.length ≤ sizeLine ∧ ∀ c H', Same H H' → SqT K H' c (xs ++ ys) → Q (.ref c) H'
theorem op_catSy : OpR X (binaryOp .Add) (rCatSy X.K) := by
  intro pins s σ H x y v u Q I rx ry h
  obtain ⟨a, b, xs, ys, rfl, rfl, ha, hb, hz, q⟩ := h
  refine op_catA pins s σ H _ _ v u Q I rx ry ⟨a, b, xs, ys, rfl, rfl, ha, hb, hz, fun e => ?_, fun _ e => ?_, fun _ _ p hp => ?_⟩
  · subst e
    exact q b H (Same.refl H) hb
  · subst e
    exact q a H (Same.refl H) (by rw [List.append_nil]; exact ha)
  · exact q p _ (Sy.Same.new (Same.refl H) hp) (SqT.of upd_same)
/-- t[lo:hi]: some tuple of the part -/
def rSlSy (K : PySem.W.Frag) : V → Option Int → Option Int → Hp → VK → Prop := fun x lo hi H Q => ∃ a xs, x = .ref a ∧ SqT K H a xs ∧ ∀ c H', Same H H' → SqT K H' c (cutV xs lo hi) → Q (.ref c) H'
theorem sl_tupSy : SlR X (rSlSy X.K) := by
  intro pins s σ H x v vl vu lo hi sl Q I rx hs pl pu h
  obtain ⟨a, xs, rfl, hx, q⟩ := h
  refine sl_tupA pins s σ H _ v vl vu lo hi sl Q I rx hs pl pu ⟨a, xs, rfl, hx, fun e => ?_, fun _ p hp => ?_⟩
  · refine q a H (Same.refl H) ?_
    unfold cutV
    rw [e.1, e.2, List.drop_zero, Nat.sub_zero, List.take_length]
    exact hx
  · exact q p _ (Sy.Same.new (Same.refl H) hp) (SqT.of upd_same)
/-- len of a list or tuple, by name -/
def rLenSy (K : PySem.W.Frag) : List V → Hp → VK → Prop := fun xs H Q => ∃ (p : Addr) (ys : List V), xs = [.ref p] ∧ (SqL K H p ys ∨ SqT K H p ys) ∧ Q (.int ys.length) H
theorem call_lenSy : CallR X (.builtin "len") (rLenSy X.K) := call_len_seq
/-- list(z), z a text -/
theorem call_list_txt (hc : X.calm = true) : CallR X (.type "list") (fun xs H Q => ∃ z, xs = [.str z] ∧ z.length ≤ sizeLine ∧ ∀ l, H l = none → Q (.ref l) (upd H l (.lst ((TL.tl z).map fun c => V.str ⟨#[c]⟩)))) := by
  intro pins s σ H xs us Q I r h
  obtain ⟨z, rfl, hz, q⟩ := h
  obtain ⟨u, rfl, rx⟩ := vals1 r
  obtain ⟨t, rfl⟩ := rx
  refine call_list_str (I.ok.hd hc) z t (hn := hz) fun h' tk acc c hk hS hacc => ?_
  refine ⟨.ref s.heap.objs.size, _, I.laid (t' := tk) hk (Nat.le_refl _) (show ObjOk X.prog X.w _ h' _ (.lst _) from ⟨by rw [List.length_map, ← TL.len_tl]; exact hz, acc.toList, c, ?_, by simpa using hS⟩), rfl, q _ (I.hok.fresh (Nat.le_refl _))⟩
  have key : ∀ (l : List Nat) (vs : List Value), vs.length = l.length → (∀ (j : Nat) (v : Value), vs[j]? = some v → ∃ c u, l[j]? = some c ∧ v = Value.str ⟨#[c]⟩ u) → Vals (l.map fun c => V.str ⟨#[c]⟩) vs := by
    intro l
    induction l with
    | nil =>
      intro vs hl _
      cases vs with
      | nil => exact .nil
      | cons v vs => simp at hl
    | cons c l ih =>
      intro vs hl hv
      cases vs with
      | nil => simp at hl
      | cons v vs =>
        obtain ⟨c', u, e, rfl⟩ := hv 0 v rfl
        cases Option.some.inj e
        exact .cons ⟨u, rfl⟩ (ih vs (by simpa using hl) fun j w hw => hv (j + 1) w hw)
  refine key _ _ (by simp [hacc.1]) fun j v hv => ?_
  obtain ⟨c, u, hc, e⟩ := hacc.2 j v (by simpa using hv)
  exact ⟨c, u, by rw [Array.getElem?_toList]; exact hc, e⟩
end
end L2
namespace Sy
open PySem PySem.Spec PyProof.Rows L2
theorem cut_to (xs : List V) (k : Nat) : cutV xs none (some (k : Int)) = xs.take k := by
  unfold cutV
  rw [HT.sIx_none, HT.sIx_nat, List.drop_zero, Nat.sub_zero]
  rcases Nat.le_total k xs.length with h | h
  · rw [Nat.min_eq_left h]
  · rw [Nat.min_eq_right h, List.take_length, List.take_of_length_le h]
theorem tl_cut_to (z : Str) (k : Nat) : TL.tl (cutS z none (some (k : Int))) = (TL.tl z).take k := by
  show (((TL.tl z).drop (HT.sIx z.length 0 none)).take (HT.sIx z.length z.length (some (k : Int)) - HT.sIx z.length 0 none)) = _
  rw [HT.sIx_none, HT.sIx_nat, List.drop_zero, Nat.sub_zero]
  have e := TL.len_tl z
  rcases Nat.le_total k z.length with h | h
  · rw [Nat.min_eq_left h]
  · rw [Nat.min_eq_right h, e, List.take_length, List.take_of_length_le (by omega)]
theorem tl_cut_from (z : Str) (k : Nat) : TL.tl (cutS z (some (k : Int)) none) = (TL.tl z).drop k := by
  show (((TL.tl z).drop (HT.sIx z.length 0 (some (k : Int)))).take (HT.sIx z.length z.length none - HT.sIx z.length 0 (some (k : Int)))) = _
  rw [HT.sIx_none, HT.sIx_nat]
  have e := TL.len_tl z
  rw [List.take_of_length_le (by rw [List.length_drop]; omega)]
  rcases Nat.le_total k z.length with h | h
  · rw [Nat.min_eq_left h]
  · rw [Nat.min_eq_right h, List.drop_of_length_le (by omega), List.drop_of_length_le (by omega)]
theorem tl_cut_mid (z : Str) {a b : Nat} (h : a ≤ b) (hb : b ≤ z.length) : TL.tl (cutS z (some (a : Int)) (some (b : Int))) = ((TL.tl z).take b).drop a := by
  show (((TL.tl z).drop (HT.sIx z.length 0 (some (a : Int)))).take (HT.sIx z.length z.length (some (b : Int)) - HT.sIx z.length 0 (some (a : Int)))) = _
  rw [HT.sIx_nat, HT.sIx_nat, Nat.min_eq_left hb, Nat.min_eq_left (Nat.le_trans h hb), List.drop_take]
theorem none_back {H H' : Hp} {p : Addr} (s : Same H H') (h : H' p = none) : H p = none := by
  cases e : H p with
  | none => rfl
  | some u =>
    rw [s _ _ e] at h
    cases h
theorem Strm.same {l p : Addr} {H H' : Hp} (h : Strm l H p) (t : Same H H') : Strm l H' p := by
  obtain ⟨ne, ns, x, k, h1, h2, h3, h4⟩ := h
  exact ⟨ne, ns, x, k, t _ _ h1, h2, t _ _ h3, h4⟩
/-! ### all stands as it was, but lists that may have got other items -/
def Lk (H H' : Hp) : Prop := ∀ b o, H b = some o → H' b = some o ∨ ∃ xs ys, o = .lst xs ∧ H' b = some (.lst ys)
theorem Lk.refl (H : Hp) : Lk H H := fun _ _ e => .inl e
theorem Lk.of_same {H H' : Hp} (s : Same H H') : Lk H H' := fun b o e => .inl (s b o e)
theorem Lk.trans {H H1 H2 : Hp} (k : Lk H H1) (l : Lk H1 H2) : Lk H H2 := fun b o e => by
  rcases k b o e with e1 | ⟨xs, ys, rfl, e1⟩
  · exact l b o e1
  · rcases l b _ e1 with e2 | ⟨_, zs, _, e2⟩
    · exact .inr ⟨xs, ys, rfl, e2⟩
    · exact .inr ⟨xs, zs, rfl, e2⟩
theorem Lk.put {H H1 : Hp} {p : Addr} {xs ys : List V} (k : Lk H H1) (e : H1 p = some (.lst xs)) : Lk H (upd H1 p (.lst ys)) := k.trans fun b o h => by
  by_cases hb : b = p
  · subst hb
    rw [e] at h
    cases h
    exact .inr ⟨xs, ys, rfl, upd_same⟩
  · exact .inl (by rw [upd_ne hb]; exact h)
theorem Lk.of_keep {l s : Addr} {H H' : Hp} (k : Keep s H H') (a : Strm l H s) (b : Strm l H' s) : Lk H H' := fun p o e => by
  by_cases hp : p = s
  · subst hp
    obtain ⟨_, _, x, c, _, _, h1, _⟩ := a
    obtain ⟨_, _, x', c', _, _, h2, _⟩ := b
    rw [h1] at e
    cases e
    exact .inr ⟨_, _, rfl, h2⟩
  · exact .inl (k p o hp e)
theorem Lk.tup {K : PySem.W.Frag} {H H' : Hp} {b : Addr} {xs : List V} (k : Lk H H') (h : SqT K H b xs) : SqT K H' b xs := by
  rcases h with (h | ⟨o, h⟩) | h
  · rcases k _ _ h with e | ⟨_, _, z, _⟩
    · exact .inl (.inl e)
    · cases z
  · rcases k _ _ h with e | ⟨_, _, z, _⟩
    · exact .inl (.inr ⟨o, e⟩)
    · cases z
  · exact .inr h
theorem Lk.ty {K : PySem.W.Frag} {H H' : Hp} {x : V} {t : Value} (k : Lk H H') (h : TyX K H x t) : TyX K H' x t := by
  have st : ∀ {a : Addr} {o : HO}, H a = some o → (∀ xs, o ≠ .lst xs) → H' a = some o := fun {a o} e n => by
    rcases k _ _ e with e | ⟨xs, _, z, _⟩
    · exact e
    · exact absurd z (n xs)
  cases h with
  | base b =>
    refine .base ?_
    cases b with
    | non => exact .non
    | bl y => exact .bl y
    | int i => exact .int i
    | str y => exact .str y
    | flt y => exact .flt y
    | lst e =>
      rcases k _ _ e with e | ⟨_, _, _, e⟩
      · exact .lst e
      · exact .lst e
    | frz e => exact .frz (st e fun _ z => by cases z)
    | tup e => exact .tup (st e fun _ z => by cases z)
    | dK e => exact .dK (st e fun _ z => by cases z)
    | dT e => exact .dT (st e fun _ z => by cases z)
    | ins e cl ha hn htk hm => exact .ins (st e fun _ z => by cases z) cl ha hn htk hm
  | byt b => exact .byt b
  | set e => exact .set (st e fun _ z => by cases z)
  | kList e c => exact .kList e c
  | kTuple e c => exact .kTuple e c
  | kDict e c => exact .kDict e c
  | fTuple e => exact .fTuple (st e fun _ z => by cases z)
  | fDict e => exact .fDict (st e fun _ z => by cases z)
theorem Lk.wd {K : PySem.W.Frag} {H H' : Hp} {v : V} (k : Lk H H') (h : Wd K H v) : Wd K H' v := by
  rcases h with h | ⟨t, h, e⟩
  · exact .inl h
  · exact .inr ⟨t, k.ty h, e⟩
end Sy
/-! Syncedwords: drawn codes are codes. -/
namespace Sy
open PySem PySem.Spec PyProof.Rows L2
/-! ### codes and what is none -/
theorem abc_of {c : Nat} (h1 : 97 ≤ c) (h2 : (c : Int) < 97 + 3) : abc c = true := by
  have e : ("abc" : Str).cps.toList = [97, 98, 99] := by decide +kernel
  unfold abc
  rw [e]
  obtain h | h | h : c = 97 ∨ c = 98 ∨ c = 99 := by omega
  · subst h; decide
  · subst h; decide
  · subst h; decide
theorem lets_all {z : Str} (h : Lets 3 z) : (TL.tl z).all abc = true := List.all_eq_true.mpr fun c hc => abc_of (h c hc).1 (h c hc).2
theorem okTxt_of {z : Str} {lo hi : Int} (h : Lets 3 z) (h1 : lo ≤ z.length) (h2 : (z.length : Int) ≤ hi) : okTxt z lo hi = true := by
  unfold okTxt
  rw [decide_eq_true h1, decide_eq_true h2, lets_all h]
  rfl
theorem codeB_of {ws : List Str} (nd : ws.Nodup) (hl : ws.length ≤ 6) (h : ∀ z ∈ ws, Lets 3 z ∧ 1 ≤ z.length ∧ (z.length : Int) ≤ 5) : codeB (ws.map V.str) = true := by
  unfold codeB
  rw [List.length_map, decide_eq_true hl, List.map_map, show (txtOf ∘ V.str) = id from rfl, List.map_id, decide_eq_true ((met_len ws).mpr nd), List.all_map, Bool.and_true, Bool.true_and]
  refine List.all_eq_true.mpr fun z hz => ?_
  obtain ⟨a, b, c⟩ := h z hz
  exact okTxt_of a (by omega) c
/-- words that make a code; a string of at most 24 letters -/
structure GoodC (ws : List Str) : Prop where
  nd : ws.Nodup
  six : ws.length ≤ 6
  word : ∀ z ∈ ws, Lets 3 z ∧ 1 ≤ z.length ∧ (z.length : Int) ≤ 5
theorem GoodC.code {ws : List Str} (h : GoodC ws) : codeB (ws.map V.str) = true := codeB_of h.nd h.six h.word
theorem GoodC.wd {K : PySem.W.Frag} {H : Hp} {ws : List Str} (h : GoodC ws) : ∀ v ∈ ws.map V.str, Wd K H v := fun v hv => by
  obtain ⟨z, hz, rfl⟩ := List.mem_map.mp hv
  exact .inl ⟨z, rfl, by have := (h.word z hz).2.2; omega⟩
def GoodS (z : Str) : Prop := Lets 3 z ∧ z.length ≤ 24
theorem len_app (x y : Str) : (x ++ y).length = x.length + y.length := by
  rw [TL.len_tl, TL.tl_append, List.length_append, TL.len_tl, TL.len_tl]
abbrev Ws (ws : List Str) : List (List Nat) := ws.map TL.tl
end Sy
/-! Syncedwords, part 7: the law. -/
namespace Sy
open PySem PySem.Spec PyProof.Rows L2
open C8 (pss_cut tCut)
abbrev sLaw : Stmt := topS 17
abbrev nLaw : List Str := ["script", "stream", "code", "at", "wrong", "odd", "told", "string", "long", "spot", "turn"]
theorem scLaw : FnScope nLaw ["script"] (defScope sLaw) := ⟨rfl, rfl, rfl, by decide +kernel, rfl, by decide +kernel, by decide +kernel⟩

/-! ### what is no code -/
theorem codeB_odd {xs : List V} {v : V} (hv : wordB v = false) (h : v ∈ xs) : codeB xs = false := by
  unfold codeB
  rw [show xs.all wordB = false from List.all_eq_false.mpr ⟨v, h, by rw [hv]; decide⟩, Bool.and_false, Bool.false_and]
theorem codeB_many {xs : List V} (h : 6 < xs.length) : codeB xs = false := by
  unfold codeB
  rw [decide_eq_false (show ¬ xs.length ≤ 6 by omega), Bool.false_and, Bool.false_and]
theorem codeB_twice {x : V} {r s : List V} : codeB (x :: r ++ x :: s) = false := by
  unfold codeB
  have : ¬ (met ((x :: r ++ x :: s).map txtOf)).length = (x :: r ++ x :: s).length := fun e => by
    have n := (met_len ((x :: r ++ x :: s).map txtOf)).mp (by rw [e, List.length_map])
    rw [List.cons_append, List.map_cons] at n
    exact (List.nodup_cons.mp n).1 (List.mem_map.mpr ⟨x, List.mem_append_right _ List.mem_cons_self, rfl⟩)
  rw [decide_eq_false this, Bool.and_false]
/-- a value that is no code, for one of the two reasons -/
def Bad (K : PySem.W.Frag) (H : Hp) (v : V) : Prop := (∃ t, TyX K H v (.type t) ∧ kitB t "tuple" = some false) ∨ (∃ a xs, v = .ref a ∧ SqT K H a xs ∧ xs.length ≤ 1000 ∧ (∀ v ∈ xs, Wd K H v) ∧ codeB xs = false)
theorem Lk.bad {K : PySem.W.Frag} {H H' : Hp} {v : V} (k : Lk H H') (h : Bad K H v) : Bad K H' v := by
  rcases h with ⟨t, h, e⟩ | ⟨a, xs, e, h, hl, hw, hc⟩
  · exact .inl ⟨t, k.ty h, e⟩
  · exact .inr ⟨a, xs, e, k.tup h, hl, fun v hv => k.wd (hw v hv), hc⟩
/-- a value that is no string -/
def BadS (K : PySem.W.Frag) (H : Hp) (v : V) : Prop := (∃ z, v = .str z ∧ z.length ≤ 1000 ∧ okTxt z 0 24 = false) ∨ (∃ t, TyX K H v (.type t) ∧ kitB t "str" = some false)
theorem Lk.badS {K : PySem.W.Frag} {H H' : Hp} {v : V} (k : Lk H H') (h : BadS K H v) : BadS K H' v := by
  rcases h with h | ⟨t, h, e⟩
  · exact .inl h
  · exact .inr ⟨t, k.ty h, e⟩
theorem wd_str {K : PySem.W.Frag} {H : Hp} {ws : List Str} {m : Int} (hm : m ≤ 1000) (h : ∀ z ∈ ws, (z.length : Int) ≤ m) : ∀ v ∈ ws.map V.str, Wd K H v := fun v hv => by
  obtain ⟨z, hz, rfl⟩ := List.mem_map.mp hv
  exact .inl ⟨z, rfl, by have := h z hz; omega⟩
theorem okTxt_bad {z : Str} {lo hi : Int} {c : Nat} (h : c ∈ TL.tl z) (hc : abc c = false) : okTxt z lo hi = false := by
  unfold okTxt
  rw [show (TL.tl z).all abc = false from List.all_eq_false.mpr ⟨c, h, by rw [hc]; decide⟩, Bool.and_false]
theorem okTxt_long {z : Str} {lo hi : Int} (h : hi < z.length) : okTxt z lo hi = false := by
  unfold okTxt
  rw [decide_eq_false (show ¬ (z.length : Int) ≤ hi by omega), Bool.and_false, Bool.false_and]

/-- a value of the ten odd ones -/
def Odd (K : PySem.W.Frag) (H : Hp) (v : V) : Prop := Wd K H v ∧ wordB v = false
/-- a lists of bools as data -/
theorem dp_bools {K : PySem.W.Frag} {H : Hp} : ∀ bs : List Bool, DpAll K H (bs.map V.bl) (bs.map PyData.bool)
  | [] => .nil
  | b :: bs => .cons (.bl b) (dp_bools bs)
theorem okD_bools {bs : List Bool} (h : bs.length ≤ 1000) : okD 2 (.list (bs.map PyData.bool)) :=
  ⟨by rw [List.length_map]; omega, fun d hd => by
    obtain ⟨b, _, rfl⟩ := List.mem_map.mp hd
    trivial⟩
def spLaw (K : PySem.W.Frag) : Sp := fun vs H Q _ => ∃ (a : Addr) (ns : List Int), vs = [.ref a] ∧ SqL K H a (ns.map V.int) ∧ ns.length ≤ 63 ∧ ∀ H', Q (.bl true) H'
/-- what the law calls -/
structure Txt (P : Program) (w : World) (K : PySem.W.Frag) (mg : Str → Option Value) (base : Heap) : Prop where
  stream : ∃ f fd, mg "_law_stream" = some (.ref f) ∧ PySem.W.keepIn K (.ref f) = true ∧ Binds K fd ["script"] [] ∧ FnOk P w K mg base CX0 1 f fd ["script"] (spStream K)
  next : ∃ f fd, mg "_law_next" = some (.ref f) ∧ PySem.W.keepIn K (.ref f) = true ∧ Binds K fd ["stream", "many"] [] ∧ FnOk P w K mg base CX0 1 f fd ["stream", "many"] spNext
  pick : ∃ f fd, mg "_law_pick" = some (.ref f) ∧ PySem.W.keepIn K (.ref f) = true ∧ Binds K fd ["stream", "rows"] [] ∧ FnOk P w K mg base CX0 2 f fd ["stream", "rows"] spPick
  string : ∃ f fd, mg "_law_string" = some (.ref f) ∧ PySem.W.keepIn K (.ref f) = true ∧ Binds K fd ["stream", "least", "most", "letters"] [] ∧ FnOk P w K mg base CX0 2 f fd ["stream", "least", "most", "letters"] spString
  code : ∃ f fd, mg "_law_code" = some (.ref f) ∧ PySem.W.keepIn K (.ref f) = true ∧ Binds K fd ["stream", "many", "most"] [] ∧ FnOk P w K mg base CX0 4 f fd ["stream", "many", "most"] spCode
  equal : ∃ f fd, mg "_law_equal" = some (.ref f) ∧ PySem.W.keepIn K (.ref f) = true ∧ Binds K fd ["actual", "due"] [] ∧ FnOk P w K mg base CX0 3 f fd ["actual", "due"] (spEqual K 2)
  iscode : ∃ f fd, mg "is_code" = some (.ref f) ∧ PySem.W.keepIn K (.ref f) = true ∧ Binds K fd ["value"] [] ∧ FnOk P w K mg base CX0 3 f fd ["value"] (spIsCode K)
  isstring : ∃ f fd, mg "is_string" = some (.ref f) ∧ PySem.W.keepIn K (.ref f) = true ∧ Binds K fd ["value"] [] ∧ FnOk P w K mg base CX0 3 f fd ["value"] (spIsString K)
  len : mg "len" = none
  list : mg "list" = none
  range : mg "range" = none
end Sy
namespace Sy
open PySem PySem.Spec PyProof.Rows L2
open C8 (pss_cut tCut)
theorem mem_cut {v : V} {xs : List V} {lo hi : Option Int} (h : v ∈ cutV xs lo hi) : v ∈ xs := List.mem_of_mem_drop (List.mem_of_mem_take h)
theorem tl_a24 : TL.tl (Txt.mul "a" 24) = List.replicate 24 97 := by decide +kernel
theorem long_lets {z : Str} (h : Lets 3 z) : Lets 3 (cutS (z ++ Txt.mul "a" 24) none (some 24)) ∧ (cutS (z ++ Txt.mul "a" 24) none (some 24)).length = 24 := by
  have e : TL.tl (cutS (z ++ Txt.mul "a" 24) none (some 24)) = (TL.tl z ++ List.replicate 24 97).take 24 := by
    rw [show cutS (z ++ Txt.mul "a" 24) none (some 24) = cutS (z ++ Txt.mul "a" 24) none (some ((24 : Nat) : Int)) from rfl, tl_cut_to, TL.tl_append, tl_a24]
  refine ⟨fun c hc => ?_, ?_⟩
  · rw [e] at hc
    rcases List.mem_append.mp (List.mem_of_mem_take hc) with hc | hc
    · exact h c hc
    · rw [List.eq_of_mem_replicate hc]
      decide
  · rw [TL.len_tl, e, List.length_take, List.length_append, List.length_replicate]
    omega
theorem mid_bad {x y k : Str} {c : Nat} {lo hi : Int} (hk : TL.tl k = [c]) (hc : abc c = false) : okTxt (x ++ k ++ y) lo hi = false :=
  okTxt_bad (c := c) (by rw [TL.tl_append, TL.tl_append, hk]; exact List.mem_append_left _ (List.mem_append_right _ List.mem_cons_self)) hc
section
variable {P : Program} {w : World} {K : PySem.W.Frag} {mg : Str → Option Value} {base : Heap}
theorem ok_law {f : Addr} {fd : FuncData} (F : Fun K "law" "law" sLaw f fd) (T : Txt P w K mg base) : FnOk P w K mg base CX0 5 f fd ["script"] (spLaw K) := by
  obtain ⟨fS, fdS, gS, kS, bS, GS⟩ := T.stream
  obtain ⟨fN, fdN, gN, kN, bN, GN⟩ := T.next
  obtain ⟨fP, fdP, gP, kP, bP, GP⟩ := T.pick
  obtain ⟨fT, fdT, gT, kT, bT, GT⟩ := T.string
  obtain ⟨fC, fdC, gC, kC, bC, GC⟩ := T.code
  obtain ⟨fE, fdE, gE, kE, bE, GE⟩ := T.equal
  obtain ⟨fI, fdI, gI, kI, bI, GI⟩ := T.iscode
  obtain ⟨fZ, fdZ, gZ, kZ, bZ, GZ⟩ := T.isstring
  have ml := T.len
  have mL := T.list
  have mr := T.range
  refine F.ok scLaw (fun vs H Q E h => ?_) (fun cdv A outer s H vs Q E hr h => ?_)
  · obtain ⟨a, ns, rfl, _⟩ := h
    rfl
  · obtain ⟨a, ns, rfl, hS, hlen, q⟩ := h
    have hr1 : Room 1 _ := hr.mono (by decide)
    have hr2 : Room 2 _ := hr.mono (by decide)
    refine ⟨_, (pss_cons (ps_set (i := 1) scLaw.nd rfl (.inr rfl) (pe_call GS hr1 (by rfl) gS kS bS .nil pass0 (pa_cons (pv 0) pa_nil)))
       (pss_cons (ps_set (i := 2) scLaw.nd rfl (.inr rfl) (pe_call GC (hr.mono (by decide)) (by rfl) gC kC bC .nil pass0 (pa_cons (pv 1) (pa_cons pe_int (pa_cons pe_int pa_nil)))))
       (pss_cons (ps_set (i := 3) scLaw.nd rfl (.inr rfl) (pe_call GN hr1 (by rfl) gN kN bN .nil pass0 (pa_cons (pv 1) (pa_cons (pe_op op_add (pe_callB call_len_seq (by rfl) ml PySem.boot_len (pa_cons (pv 2) pa_nil)) pe_int) pa_nil))))
       (pss_cons (ps_set (i := 4) scLaw.nd rfl (.inr rfl) (pe_lst (pa_cons pe_non (pa_cons (pe_callTy call_list_of (by rfl) mL (by decide +kernel) (pa_cons (pv 2) pa_nil)) (pa_cons pe_str (pa_cons pe_int (pa_cons (pe_tup (pa_cons pe_str (pa_cons pe_str (pa_cons pe_str (pa_cons pe_str (pa_cons pe_str (pa_cons pe_str (pa_cons pe_str pa_nil)))))))) (pa_cons (pe_op (r := rCatSy K) op_catSy (pe_slice (r := rSlSy K) sl_tupSy (pv 2) po_none (po_some pe_int)) (pe_tup (pa_cons pe_str pa_nil))) pa_nil))))))))
       (pss_cons (ps_expr (pe_bm PySem.F.plainAttrs_list PySem.F.slot_list_extend PySem.F.type_list_extend mt_extend (pv 4) (pa_cons (pe_lc (own := [("odd", 5)]) (g := (gName 5)) (tt := tYes) rfl scLaw.nd (pi_list (pe_lst (pa_cons pe_str (pa_cons pe_str (pa_cons pe_str (pa_cons pe_str (pa_cons pe_str (pa_cons pe_non (pa_cons pe_int (pa_cons pe_bl (pa_cons (pe_tup (pa_cons pe_str pa_nil)) (pa_cons (pe_lst (pa_cons pe_str pa_nil)) pa_nil)))))))))))) (blkOk_by (own := [("odd", 5)]) (N := nLaw) (sc := defScope sLaw) (by decide +kernel)) (fun _ _ _ _ _ => (pg_name (i := 5) scLaw.nd rfl (Or.inl rfl))) (fun _ _ _ _ _ => pts_nil) (fun _ _ _ _ _ => (pe_op (r := rCatSy K) op_catSy (pe_slice (r := rSlSy K) sl_tupSy (pe_slice (r := rSlSy K) sl_tupSy (pv 2) po_none (po_some (pv 3))) po_none (po_some pe_int)) (pe_tup (pa_cons (pv 5) pa_nil))))) pa_nil)))
       (pss_cut (ps_if (pt_truth (pv 2) (by intro _; rfl)) (pss_one (ps_expr (pe_bm PySem.F.plainAttrs_list PySem.F.slot_list_append PySem.F.type_list_append mt_append (pv 4) (pa_cons (pe_op (r := rCatSy K) op_catSy (pe_slice (r := rSlSy K) sl_tupSy (pv 2) po_none (po_some pe_int)) (pe_slice (r := rSlSy K) sl_tupSy (pv 2) po_none (po_some pe_int))) pa_nil)))) pss_nil)
       (pss_cons (ps_set (i := 6) scLaw.nd rfl (.inl rfl) (pe_lst (pa_cons (pe_call GI (hr.mono (by decide)) (by rfl) gI kI bI .nil pass0 (pa_cons (pv 2) pa_nil)) (pa_cons (pe_call GI (hr.mono (by decide)) (by rfl) gI kI bI .nil pass0 (pa_cons (pe_tup pa_nil) pa_nil)) (pa_cons (pe_call GI (hr.mono (by decide)) (by rfl) gI kI bI .nil pass0 (pa_cons (pe_tup (pa_cons pe_str (pa_cons pe_str (pa_cons pe_str (pa_cons pe_str (pa_cons pe_str (pa_cons pe_str pa_nil))))))) pa_nil)) pa_nil)))))
       (pss_cons (ps_if (pt_not (pt_val (pe_call GE (hr.mono (by decide)) (by rfl) gE kE bE .nil pass0 (pa_cons (pe_op op_cat (pv 6) (pe_lc (own := [("turn", 10)]) (g := (gName 10)) (tt := tYes) rfl scLaw.nd (pi_range1 (by rfl) mr (pa_cons pe_int pa_nil)) (blkOk_by (own := [("turn", 10)]) (N := nLaw) (sc := defScope sLaw) (by decide +kernel)) (fun _ _ _ _ _ => (pg_name (i := 10) scLaw.nd rfl (Or.inl rfl))) (fun _ _ _ _ _ => pts_nil) (fun _ _ _ _ _ => (pe_call GI (hr.mono (by decide)) (by rfl) gI kI bI .nil pass0 (pa_cons (pe_call GP hr2 (by rfl) gP kP bP .nil pass0 (pa_cons (pv 1) (pa_cons (pv 4) pa_nil))) pa_nil))))) (pa_cons (pe_lst (pa_cons pe_bl (pa_cons pe_bl (pa_cons pe_bl (pa_cons pe_bl (pa_cons pe_bl (pa_cons pe_bl pa_nil))))))) pa_nil))))) pss_never pss_nil)
       (pss_cons (ps_set (i := 7) scLaw.nd rfl (.inl rfl) (pe_call GT hr2 (by rfl) gT kT bT .nil pass0 (pa_cons (pv 1) (pa_cons pe_int (pa_cons pe_int (pa_cons pe_int pa_nil))))))
       (pss_cons (ps_set (i := 8) scLaw.nd rfl (.inl rfl) (pe_slice sl_str (pe_op op_add_str (pv 7) (pe_op op_mul_txt pe_str pe_int)) po_none (po_some pe_int)))
       (pss_cons (ps_set (i := 9) scLaw.nd rfl (.inl rfl) (pe_call GN hr1 (by rfl) gN kN bN .nil pass0 (pa_cons (pv 1) (pa_cons pe_int pa_nil))))
       (pss_cons (ps_set (i := 5) scLaw.nd rfl (.inl rfl) (pe_call GP hr2 (by rfl) gP kP bP .nil pass0 (pa_cons (pv 1) (pa_cons (pe_lst (pa_cons pe_non (pa_cons pe_int (pa_cons pe_bl (pa_cons (pe_callTy (call_list_txt rfl) (by rfl) mL (by decide +kernel) (pa_cons (pv 7) pa_nil)) (pa_cons (pe_tup (pa_cons (pv 7) pa_nil)) (pa_cons (pe_op op_add_str (pv 8) pe_str) (pa_cons (pe_op op_add_str (pe_op op_add_str (pe_slice sl_str (pv 8) po_none (po_some (pv 9))) pe_str) (pe_slice sl_str (pv 8) (po_some (pe_op op_add (pv 9) pe_int)) po_none)) (pa_cons (pe_op op_add_str (pe_op op_add_str (pe_slice sl_str (pv 8) po_none (po_some (pv 9))) pe_str) (pe_slice sl_str (pv 8) (po_some (pe_op op_add (pv 9) pe_int)) po_none)) (pa_cons (pe_op op_add_str (pe_op op_add_str (pe_slice sl_str (pv 8) po_none (po_some (pv 9))) pe_str) (pe_slice sl_str (pv 8) (po_some (pe_op op_add (pv 9) pe_int)) po_none)) (pa_cons pe_str (pa_cons pe_str pa_nil)))))))))))) pa_nil))))
       (pss_one (ps_ret (pe_call GE (hr.mono (by decide)) (by rfl) gE kE bE .nil pass0 (pa_cons (pe_lst (pa_cons (pe_call GZ (hr.mono (by decide)) (by rfl) gZ kZ bZ .nil pass0 (pa_cons (pv 7) pa_nil)) (pa_cons (pe_call GZ (hr.mono (by decide)) (by rfl) gZ kZ bZ .nil pass0 (pa_cons (pv 8) pa_nil)) (pa_cons (pe_call GZ (hr.mono (by decide)) (by rfl) gZ kZ bZ .nil pass0 (pa_cons pe_str pa_nil)) (pa_cons (pe_call GZ (hr.mono (by decide)) (by rfl) gZ kZ bZ .nil pass0 (pa_cons (pv 5) pa_nil)) pa_nil))))) (pa_cons (pe_lst (pa_cons pe_bl (pa_cons pe_bl (pa_cons pe_bl (pa_cons pe_bl pa_nil))))) pa_nil))))))))))))))))), ?_⟩
    -- stream = _law_stream(script)
    refine ⟨_, rfl, a, ns, rfl, hS, hlen, fun l p H1 s1 np nl st1 => ?_⟩
    -- code = _law_code(stream, 6, 5)
    refine ⟨_, rfl, l, p, 6, 5, rfl, st1, by decide, by decide, by decide, by decide, fun c ws H2 kp2 st2 nc hc nd hle hz => ?_⟩
    have hle6 : ws.length ≤ 6 := by omega
    have hT2 : SqT K H2 c (ws.map V.str) := SqT.of hc
    have hw2 : ∀ (H : Hp), ∀ v ∈ ws.map V.str, Wd K H v := fun H => wd_str (m := 5) (by decide) fun z hz' => (hz z hz').2.2
    have hcode : codeB (ws.map V.str) = true := codeB_of nd hle6 hz
    -- at = _law_next(stream, len(code) + 1)
    refine ⟨_, rfl, _, rfl, c, _, rfl, .inr hT2, _, 1, rfl, rfl, l, p, _, rfl, st2, by omega, by rw [List.length_map]; omega, fun d H3 d0 d1 kp3 st3 => ?_⟩
    have hT3 : SqT K H3 c (ws.map V.str) := (Lk.of_keep kp3 st2 st3).tup hT2
    -- wrong = [..]
    refine ⟨_, rfl, c, _, rfl, .inr hT3, fun A nA => ?_⟩
    have sA := Same.new (o := .lst (ws.map V.str)) (Same.refl H3) nA
    refine ⟨(by show 7 ≤ sizeLine; decide), fun T7 n7 => ?_⟩
    have s7 := Same.new (o := .tup [.str "a", .str "b", .str "c", .str "aa", .str "ab", .str "ac", .str "ba"]) sA n7
    refine ⟨_, rfl, 5, rfl, c, _, rfl, Same.tup s7 hT3, fun b H5 s5 hb => ?_⟩
    refine ⟨(by show 1 ≤ sizeLine; decide), fun u nu => ?_⟩
    have su := Same.new (o := .tup [.str "aaaaaa"]) s5 nu
    have hb5 : (cutV (ws.map V.str) none (some 5)) = (ws.map V.str).take 5 := cut_to _ 5
    have hlen5 : ((ws.map V.str).take 5).length ≤ 5 := by rw [List.length_take]; omega
    refine ⟨b, u, _, _, rfl, rfl, Same.tup (Same.new (Same.refl H5) nu) hb, SqT.of upd_same, ?_, fun e H6 s6 he => ?_⟩
    · rw [hb5, sizeLine_eq]
      show _ + 1 ≤ _
      omega
    refine ⟨(by show 6 ≤ sizeLine; decide), fun W nW => ?_⟩
    have t6 : Same H3 H6 := s7.trans (su.trans s6)
    have t7 : Same H3 (upd H6 W (.lst [.non, .ref A, .str "ab", .int 0, .ref T7, .ref e])) := Same.new t6 nW
    have st6 : Strm l H6 p := by
      obtain ⟨ne, ns, x, k, h1, h2, h3, h4⟩ := st3
      exact ⟨ne, ns, x, k, t6 _ _ h1, h2, t6 _ _ h3, h4⟩
    have nWs := st6.ne nW
    have st7 := st6.new (o := .lst [.non, .ref A, .str "ab", .int 0, .ref T7, .ref e]) nW
    generalize hH7 : upd H6 W (.lst [.non, .ref A, .str "ab", .int 0, .ref T7, .ref e]) = H7 at t7 st7
    have hW7 : H7 W = some (.lst [.non, .ref A, .str "ab", .int 0, .ref T7, .ref e]) := by rw [← hH7, upd_same]
    have l67 : Same H6 H7 := by rw [← hH7]; exact Same.new (Same.refl H6) nW
    have hT7 : SqT K H7 c (ws.map V.str) := Same.tup t7 hT3
    have bad7 : ∀ v ∈ [V.non, .ref A, .str "ab", .int 0, .ref T7, .ref e], Bad K H7 v := by
      intro v hv
      simp only [List.mem_cons, List.not_mem_nil, or_false] at hv
      rcases hv with rfl | rfl | rfl | rfl | rfl | rfl
      · exact .inl ⟨"NoneType", .base .non, by decide +kernel⟩
      · exact .inl ⟨"list", ty_lst (SqL.of (l67 _ _ (s6 _ _ (su _ _ (Same.new (Same.refl _) n7 _ _ upd_same))))), by decide +kernel⟩
      · exact .inl ⟨"str", .base (.str _), by decide +kernel⟩
      · exact .inl ⟨"int", .base (.int _), by decide +kernel⟩
      · refine .inr ⟨T7, _, rfl, SqT.of (l67 _ _ (s6 _ _ (su _ _ upd_same))), by decide, fun v hv => ?_, codeB_many (by decide)⟩
        simp only [List.mem_cons, List.not_mem_nil, or_false] at hv
        rcases hv with rfl | rfl | rfl | rfl | rfl | rfl | rfl <;> exact .inl ⟨_, rfl, by decide +kernel⟩
      · refine .inr ⟨e, _, rfl, Same.tup l67 he, ?_, fun v hv => ?_, codeB_odd (v := .str "aaaaaa") (by decide +kernel) (List.mem_append_right _ (List.mem_singleton.mpr rfl))⟩
        · rw [List.length_append, hb5]
          show _ + 1 ≤ _
          omega
        · rcases List.mem_append.mp hv with hv | hv
          · rw [hb5] at hv
            exact hw2 H7 v (List.mem_of_mem_take hv)
          · rw [List.mem_singleton.mp hv]
            exact .inl ⟨_, rfl, by decide +kernel⟩
    -- wrong.extend([..])
    refine ⟨_, rfl, .inl ⟨rfl, _, SqL.of hW7⟩, ?_⟩
    refine ⟨(by show 1 ≤ sizeLine; decide), fun t nt => ⟨(by show 1 ≤ sizeLine; decide), fun g ng => ⟨(by show 10 ≤ sizeLine; decide), fun O nO => ?_⟩⟩⟩
    have sO := Same.new (o := .lst [.str "", .str "d", .str "A", .str "a b", .str "abcabc", .non, .int 0, .bl true, .ref t, .ref g]) (Same.new (o := .lst [.str "a"]) (Same.new (o := .tup [.str "a"]) (Same.refl H7) nt) ng) nO
    have odds : ∀ H', Same (upd (upd (upd H7 t (.tup [.str "a"])) g (.lst [.str "a"])) O (.lst [.str "", .str "d", .str "A", .str "a b", .str "abcabc", .non, .int 0, .bl true, .ref t, .ref g])) H' →
        ∀ v ∈ [V.str "", .str "d", .str "A", .str "a b", .str "abcabc", .non, .int 0, .bl true, .ref t, .ref g], Odd K H' v := by
      intro H' sm v hv
      have ht := sm _ _ (Same.new (Same.new (Same.refl _) ng) nO t _ upd_same)
      have hg := sm _ _ (Same.new (Same.refl _) nO g _ upd_same)
      simp only [List.mem_cons, List.not_mem_nil, or_false] at hv
      rcases hv with rfl | rfl | rfl | rfl | rfl | rfl | rfl | rfl | rfl | rfl
      · exact ⟨.inl ⟨_, rfl, by decide +kernel⟩, by decide +kernel⟩
      · exact ⟨.inl ⟨_, rfl, by decide +kernel⟩, by decide +kernel⟩
      · exact ⟨.inl ⟨_, rfl, by decide +kernel⟩, by decide +kernel⟩
      · exact ⟨.inl ⟨_, rfl, by decide +kernel⟩, by decide +kernel⟩
      · exact ⟨.inl ⟨_, rfl, by decide +kernel⟩, by decide +kernel⟩
      · exact ⟨.inr ⟨"NoneType", .base .non, by decide +kernel⟩, rfl⟩
      · exact ⟨.inr ⟨"int", .base (.int _), by decide +kernel⟩, rfl⟩
      · exact ⟨.inr ⟨"bool", .base (.bl _), by decide +kernel⟩, rfl⟩
      · exact ⟨.inr ⟨"tuple", ty_tup (SqT.of ht), by decide +kernel⟩, rfl⟩
      · exact ⟨.inr ⟨"list", ty_lst (SqL.of hg), by decide +kernel⟩, rfl⟩
    generalize hH8 : upd (upd (upd H7 t (.tup [.str "a"])) g (.lst [.str "a"])) O (.lst [.str "", .str "d", .str "A", .str "a b", .str "abcabc", .non, .int 0, .bl true, .ref t, .ref g]) = H8 at sO odds
    have hO8 : H8 O = some (.lst [.str "", .str "d", .str "A", .str "a b", .str "abcabc", .non, .int 0, .bl true, .ref t, .ref g]) := by rw [← hH8, upd_same]
    generalize hodd : [V.str "", .str "d", .str "A", .str "a b", .str "abcabc", .non, .int 0, .bl true, .ref t, .ref g] = od at odds hO8
    have hodl : od.length = 10 := by rw [← hodd]; rfl
    refine ⟨O, rfl, ⟨od, SqL.of hO8⟩, fun D nD => ?_⟩
    refine lc_list (xs := od) (fun i H' => Same H8 H' ∧ ∃ us, H' D = some (.lst us) ∧ us.length = i ∧ ∀ u ∈ us, Bad K H' u) ⟨Same.new (Same.refl H8) nD, [], upd_same, rfl, fun u hu => by simp at hu⟩
      (fun i H' _ hP => hP.1.seq (SqL.of hO8)) (fun i x H' hx hP => ?_) (fun H' hP => ?_)
    · obtain ⟨sm, us, hus, hul, hub⟩ := hP
      have hi10 : i < 10 := by
        rw [← hodl]
        exact (List.getElem?_eq_some_iff.mp hx).1
      have hxo := odds H' sm x (List.mem_of_getElem? hx)
      have hT' : SqT K H' c (ws.map V.str) := Same.tup (sO.trans sm) hT7
      refine ⟨rfl, tYes_ok ?_⟩
      refine ⟨_, rfl, _, rfl, d, rfl, c, _, rfl, hT', fun b1 Hx sx hb1 => ?_⟩
      refine ⟨5, rfl, b1, _, rfl, hb1, fun b2 Hy sy hb2 => ?_⟩
      refine ⟨_, rfl, (by show 1 ≤ sizeLine; decide), fun u nu => ?_⟩
      have hcl : (cutV (cutV (ws.map V.str) none (some d)) none (some 5)).length ≤ 6 := by
        have h1 := cutV_length (cutV (ws.map V.str) none (some d)) none (some 5)
        have h2 := cutV_length (ws.map V.str) none (some d)
        rw [List.length_map] at h2
        omega
      refine ⟨b2, u, _, _, rfl, rfl, Same.tup (Same.new (Same.refl Hy) nu) hb2, SqT.of upd_same, ?_, fun e' Hz sz he' => ?_⟩
      · rw [sizeLine_eq]
        show _ + 1 ≤ _
        omega
      have sxz : Same H' Hz := sx.trans (sy.trans ((Same.new (Same.refl Hy) nu).trans sz))
      have hD := sxz _ _ hus
      have lk : Lk H' (upd Hz D (.lst (us ++ [.ref e']))) := (Lk.of_same sxz).put hD
      refine ⟨us, hD, ?_, Same.put' (sm.trans sxz) nD, us ++ [.ref e'], upd_same, by rw [List.length_append, hul]; rfl, fun v hv => ?_⟩
      · rw [hul, sizeLine_eq]
        omega
      · rcases List.mem_append.mp hv with hv | hv
        · exact lk.bad (hub v hv)
        · rw [List.mem_singleton.mp hv]
          have lz : Lk Hz (upd Hz D (.lst (us ++ [.ref e']))) := (Lk.refl Hz).put hD
          refine .inr ⟨e', _, rfl, lz.tup he', ?_, fun v hv => ?_, codeB_odd hxo.2 (List.mem_append_right _ (List.mem_singleton.mpr rfl))⟩
          · rw [List.length_append]
            show _ + 1 ≤ _
            omega
          · rcases List.mem_append.mp hv with hv | hv
            · exact hw2 _ v (mem_cut (mem_cut hv))
            · rw [List.mem_singleton.mp hv]
              exact lk.wd hxo.1
    obtain ⟨sm, us, hus, hul, hub⟩ := hP
    rw [hodl] at hul
    have s78 : Same H7 H' := sO.trans sm
    have hW' := s78 _ _ hW7
    refine ⟨W, D, _, us, rfl, rfl, hW', hus, ?_, ?_⟩
    · rw [hul]
      show 6 + 10 ≤ sizeLine
      decide
    have st8 := st7.same s78
    have lk9 : Lk H' (upd H' W (.lst ([.non, .ref A, .str "ab", .int 0, .ref T7, .ref e] ++ us))) := (Lk.refl H').put hW'
    have st9 := st8.put (o := .lst ([.non, .ref A, .str "ab", .int 0, .ref T7, .ref e] ++ us)) nWs.1 nWs.2
    have hT9 : SqT K (upd H' W (.lst ([.non, .ref A, .str "ab", .int 0, .ref T7, .ref e] ++ us))) c (ws.map V.str) := lk9.tup (Same.tup s78 hT7)
    have bad9 : ∀ v ∈ [V.non, .ref A, .str "ab", .int 0, .ref T7, .ref e] ++ us, Bad K (upd H' W (.lst ([.non, .ref A, .str "ab", .int 0, .ref T7, .ref e] ++ us))) v := fun v hv => by
      rcases List.mem_append.mp hv with hv | hv
      · exact lk9.bad ((Lk.of_same s78).bad (bad7 v hv))
      · exact lk9.bad (hub v hv)
    have hvl : ([V.non, .ref A, .str "ab", .int 0, .ref T7, .ref e] ++ us).length = 16 := by rw [List.length_append, hul]; rfl
    generalize [V.non, .ref A, .str "ab", .int 0, .ref T7, .ref e] ++ us = vs at hvl bad9 st9 hT9 lk9
    -- if code: wrong.append(..)
    refine ⟨fun σ' H' => ∃ vs : List V, σ' = [some (.ref a), some (.ref p), some (.ref c), some (.int d), some (.ref W), none, none, none, none, none, none] ∧ Strm l H' p ∧ SqT K H' c (ws.map V.str) ∧ H' W = some (.lst vs) ∧ 0 < vs.length ∧ vs.length ≤ 1000 ∧ ∀ v ∈ vs, Bad K H' v, ?_, ?_⟩
    · refine ⟨_, rfl, !(ws.map V.str).isEmpty, .inr (.inl ⟨_, hT9, rfl⟩), ?_⟩
      cases hws : ws with
      | nil => exact iteF ⟨vs, rfl, st9, hws ▸ hT9, upd_same, by omega, by omega, bad9⟩
      | cons z zs =>
        refine iteT ⟨_, rfl, .inl ⟨rfl, _, SqL.of upd_same⟩, ?_⟩
        refine ⟨_, rfl, 5, rfl, c, _, rfl, hT9, fun b1 Hx sx hb1 => ?_⟩
        refine ⟨_, rfl, 1, rfl, c, _, rfl, Same.tup sx hT9, fun b2 Hy sy hb2 => ?_⟩
        have e5 : cutV (ws.map V.str) none (some 5) = .str z :: (zs.map V.str).take 4 := by
          rw [show cutV (ws.map V.str) none (some 5) = (ws.map V.str).take 5 from cut_to _ 5, hws]
          rfl
        have e1 : cutV (ws.map V.str) none (some 1) = [.str z] := by
          rw [show cutV (ws.map V.str) none (some 1) = (ws.map V.str).take 1 from cut_to _ 1, hws]
          rfl
        have h4 : ((zs.map V.str).take 4).length ≤ 4 := by rw [List.length_take]; omega
        rw [e5] at hb1
        rw [e1] at hb2
        refine ⟨b1, b2, _, _, rfl, rfl, Same.tup sy hb1, hb2, ?_, fun e' Hz sz he' => ?_⟩
        · rw [sizeLine_eq, List.length_cons]
          show _ + 1 + 1 ≤ _
          omega
        have sxz := sx.trans (sy.trans sz)
        have hWz := sxz _ _ upd_same
        have lkz : Lk _ (upd Hz W (.lst (vs ++ [.ref e']))) := (Lk.of_same sxz).put hWz
        refine ⟨W, vs, _, rfl, rfl, hWz, by rw [hvl, sizeLine_eq]; decide, vs ++ [.ref e'], rfl, (st9.same sxz).put nWs.1 nWs.2, hws ▸ lkz.tup hT9, upd_same, by rw [List.length_append]; show 0 < _ + 1; omega, by rw [List.length_append, hvl]; show 16 + 1 ≤ 1000; decide, fun v hv => ?_⟩
        rcases List.mem_append.mp hv with hv | hv
        · exact lkz.bad (bad9 v hv)
        · rw [List.mem_singleton.mp hv]
          have lz : Lk Hz (upd Hz W (.lst (vs ++ [.ref e']))) := (Lk.refl Hz).put hWz
          refine .inr ⟨e', _, rfl, lz.tup he', ?_, fun v hv => ?_, codeB_twice (r := (zs.map V.str).take 4) (s := [])⟩
          · rw [List.length_append, List.length_cons]
            show _ + 1 + 1 ≤ _
            omega
          · have hz5 : ∀ v ∈ (ws.map V.str), Wd K (upd Hz W (.lst (vs ++ [.ref e']))) v := hw2 _
            rw [hws] at hz5
            rcases List.mem_append.mp hv with hv | hv
            · rcases List.mem_cons.mp hv with rfl | hv
              · exact hz5 _ List.mem_cons_self
              · exact hz5 _ (List.mem_cons_of_mem _ (List.mem_of_mem_take hv))
            · rw [List.mem_singleton.mp hv]
              exact hz5 _ List.mem_cons_self
    clear hub bad7 odds hO8
    rintro σ' Ha ⟨vs, rfl, sta, hTa, hWa, hv0, hv1, bada⟩
    -- told = [..]
    have e0 : codeB [] = true := by decide +kernel
    have e6 : codeB [.str "a", .str "b", .str "c", .str "aaaaa", .str "ab", .str "ac"] = true := by decide +kernel
    refine ⟨_, rfl, _, rfl, .inr ⟨c, _, rfl, hTa, by rw [List.length_map]; omega, hw2 _, fun Hb sb => ?_⟩⟩
    refine ⟨Nat.zero_le _, fun u1 n1 => ?_⟩
    refine ⟨_, rfl, .inr ⟨u1, [], rfl, SqT.of upd_same, Nat.zero_le _, fun v hv => by simp at hv, fun Hc sc => ?_⟩⟩
    refine ⟨(by show 6 ≤ sizeLine; decide), fun u2 n2 => ?_⟩
    refine ⟨_, rfl, .inr ⟨u2, _, rfl, SqT.of upd_same, by decide, fun v hv => ?_, fun Hd sd => ?_⟩⟩
    · simp only [List.mem_cons, List.not_mem_nil, or_false] at hv
      rcases hv with rfl | rfl | rfl | rfl | rfl | rfl <;> exact .inl ⟨_, rfl, by decide +kernel⟩
    rw [hcode, e0, e6]
    refine ⟨(by show 3 ≤ sizeLine; decide), fun Tl nTl => ?_⟩
    have sad : Same Ha Hd := sb.trans ((Same.new (Same.refl Hb) n1).trans (sc.trans ((Same.new (Same.refl Hc) n2).trans sd)))
    have saq : Same Ha (upd Hd Tl (.lst [.bl true, .bl true, .bl true])) := Same.new sad nTl
    have stq := sta.same saq
    have hTl : (upd Hd Tl (.lst [.bl true, .bl true, .bl true])) Tl = some (.lst [.bl true, .bl true, .bl true]) := upd_same
    have nTs := (sta.same sad).ne nTl
    have hWq := saq _ _ hWa
    generalize upd Hd Tl (.lst [.bl true, .bl true, .bl true]) = Hq at saq stq hTl hWq
    have badq : ∀ v ∈ vs, Bad K Hq v := fun v hv => (Lk.of_same saq).bad (bada v hv)
    -- if not _law_equal(..)
    refine ⟨_, rfl, 3, rfl, by decide, by decide, fun D nD => ?_⟩
    have nDs := stq.ne nD
    refine lc_range (lo := 0) (n := (3 : Int).toNat) (fun i H' => Keep p Hq H' ∧ Strm l H' p ∧ H' D = some (.lst (List.replicate i (V.bl false)))) ⟨(Keep.refl Hq).new nD, stq.new nD, upd_same⟩ (fun i H' hi hP => ?_) (fun He hP => ?_)
    · obtain ⟨kp, st', hD⟩ := hP
      refine ⟨rfl, tYes_ok ?_⟩
      refine ⟨_, rfl, _, rfl, l, p, W, vs, rfl, st', kp _ _ nWs.1 hWq, nWs.1, hv0, hv1, fun j x H2 hx kp2 st2' => ?_⟩
      have kp' := kp.trans kp2
      have hb := (Lk.of_keep kp' stq st2').bad (badq x (List.mem_of_getElem? hx))
      have hD2 := kp2 _ _ nDs.1 hD
      have fin : ∀ H3, Same H2 H3 → ∃ acc, H3 D = some (.lst acc) ∧ acc.length < sizeLine ∧ Keep p Hq (upd H3 D (.lst (acc ++ [.bl false]))) ∧ Strm l (upd H3 D (.lst (acc ++ [.bl false]))) p ∧ (upd H3 D (.lst (acc ++ [.bl false]))) D = some (.lst (List.replicate (i + 1) (V.bl false))) := fun H3 s3 => by
        refine ⟨_, s3 _ _ hD2, ?_, (kp'.trans (Keep.of_same s3)).put' nD, (st2'.same s3).put nDs.1 nDs.2, by rw [upd_same, List.replicate_succ']⟩
        rw [List.length_replicate, sizeLine_eq]
        have : i < 3 := hi
        omega
      rcases hb with ⟨ty, h1, h2⟩ | ⟨b, xs, rfl, h1, h2, h3, h4⟩
      · exact ⟨_, rfl, .inl ⟨ty, h1, h2, fin H2 (Same.refl H2)⟩⟩
      · refine ⟨_, rfl, .inr ⟨b, xs, rfl, h1, h2, h3, fun H3 s3 => ?_⟩⟩
        rw [h4]
        exact fin H3 s3
    obtain ⟨kpe, ste, hDe⟩ := hP
    have hTle := kpe _ _ nTs.1 hTl
    refine ⟨Tl, D, _, _, rfl, rfl, hTle, hDe, (by show 6 ≤ sizeLine; decide), fun R nR => ?_⟩
    refine ⟨(by show 6 ≤ sizeLine; decide), fun U nU => ?_⟩
    refine ⟨.ref R, .ref U, .list (([true, true, true, false, false, false] : List Bool).map PyData.bool), rfl, .lst (SqL.of (Same.new (Same.refl _) nU _ _ upd_same)) (dp_bools [true, true, true, false, false, false]), .lst (SqL.of upd_same) (dp_bools [true, true, true, false, false, false]), okD_bools (by decide), fun Hg sg => ?_⟩
    refine ⟨true, rfl, iteF ?_⟩
    have stg : Strm l Hg p := ((ste.new nR).new nU).same sg
    -- string, long, spot
    refine ⟨_, rfl, l, p, 0, 24, 3, rfl, stg, by decide, by decide, by decide, by decide, by decide, fun z Hh _ sth hz3 hz0 hz24 => ?_⟩
    have hzl : z.length ≤ 24 := by omega
    refine ⟨_, rfl, "a", 24, rfl, rfl, by decide +kernel, by decide, by decide, _, _, rfl, rfl, ?_, 24, rfl, _, rfl, ?_, ?_⟩
    · rw [sizeLine_eq, show (Txt.mul "a" 24).length = 24 by decide +kernel]
      omega
    · rw [sizeLine_eq, len_app, show (Txt.mul "a" 24).length = 24 by decide +kernel]
      omega
    obtain ⟨hL3, hLl⟩ := long_lets hz3
    generalize cutS (z ++ Txt.mul "a" 24) none (some 24) = long at hL3 hLl
    refine ⟨_, rfl, l, p, 24, rfl, sth, by decide, by decide, fun spot Hi _ _ _ sti => ?_⟩
    -- odd
    refine ⟨_, rfl, _, rfl, z, rfl, by rw [sizeLine_eq]; omega, fun A2 nA2 => ?_⟩
    refine ⟨_, rfl, (by show 1 ≤ sizeLine; decide), fun B2 nB2 => ?_⟩
    refine ⟨_, rfl, _, _, rfl, rfl, by rw [hLl, sizeLine_eq]; decide, ?_⟩
    have cutLe : ∀ lo hi, (cutS long lo hi).length ≤ 24 := fun lo hi => by
      rw [← hLl]
      exact cutS_length _ _ _
    have midLe : ∀ (k : Str), k.length = 1 → (cutS long none (some spot) ++ k ++ cutS long (some (spot + 1)) none).length ≤ 100 := fun k hk => by
      have h1 := cutLe none (some spot)
      have h2 := cutLe (some (spot + 1)) none
      rw [len_app, len_app, hk]
      omega
    have addLe1 : ∀ (k : Str), k.length = 1 → (cutS long none (some spot)).length + k.length ≤ sizeLine := fun k hk => by
      have h1 := cutLe none (some spot)
      rw [hk, sizeLine_eq]
      omega
    have addLe2 : ∀ (k : Str), k.length = 1 → (cutS long none (some spot) ++ k).length + (cutS long (some (spot + 1)) none).length ≤ sizeLine := fun k hk => by
      have h1 := midLe k hk
      rw [len_app] at h1
      rw [sizeLine_eq]
      omega
    have ka : ("a" : Str).length = 1 := by decide +kernel
    have k1 : ("d" : Str).length = 1 := by decide +kernel
    have k2 : ("B" : Str).length = 1 := by decide +kernel
    have k3 : (" " : Str).length = 1 := by decide +kernel
    have hLs : long.length ≤ sizeLine := by
      rw [hLl, sizeLine_eq]
      decide
    refine ⟨_, rfl, _, rfl, spot, rfl, _, rfl, hLs, _, _, rfl, rfl, addLe1 _ k1, _, rfl, _, rfl, _, _, rfl, rfl, _, rfl, _, rfl, hLs, _, _, rfl, rfl, addLe2 _ k1, ?_⟩
    refine ⟨_, rfl, _, rfl, spot, rfl, _, rfl, hLs, _, _, rfl, rfl, addLe1 _ k2, _, rfl, _, rfl, _, _, rfl, rfl, _, rfl, _, rfl, hLs, _, _, rfl, rfl, addLe2 _ k2, ?_⟩
    refine ⟨_, rfl, _, rfl, spot, rfl, _, rfl, hLs, _, _, rfl, rfl, addLe1 _ k3, _, rfl, _, rfl, _, _, rfl, rfl, _, rfl, _, rfl, hLs, _, _, rfl, rfl, addLe2 _ k3, ?_⟩
    refine ⟨(by show 11 ≤ sizeLine; decide), fun O2 nO2 => ?_⟩
    have nOs := ((sti.new nA2).new nB2).ne nO2
    refine ⟨l, p, O2, _, rfl, ((sti.new nA2).new nB2).new nO2, upd_same, nOs.1, (by show 0 < 11; decide), (by show 11 ≤ 1000; decide), fun j x Hj hx kpj stj => ?_⟩
    have hA2 := kpj A2 _ (sti.ne nA2).1 (Same.new (Same.new (Same.refl _) nB2) nO2 A2 _ upd_same)
    have hB2 := kpj B2 _ ((sti.new nA2).ne nB2).1 (Same.new (Same.refl _) nO2 B2 _ upd_same)
    have hbad : BadS K Hj x := by
      have hm := List.mem_of_getElem? hx
      simp only [List.mem_cons, List.not_mem_nil, or_false] at hm
      rcases hm with rfl | rfl | rfl | rfl | rfl | rfl | rfl | rfl | rfl | rfl | rfl
      · exact .inr ⟨"NoneType", .base .non, by decide +kernel⟩
      · exact .inr ⟨"int", .base (.int _), by decide +kernel⟩
      · exact .inr ⟨"bool", .base (.bl _), by decide +kernel⟩
      · exact .inr ⟨"list", ty_lst (SqL.of hA2), by decide +kernel⟩
      · exact .inr ⟨"tuple", ty_tup (SqT.of hB2), by decide +kernel⟩
      · exact .inl ⟨_, rfl, by rw [len_app, hLl, ka]; omega, okTxt_long (by rw [len_app, hLl, ka]; omega)⟩
      · exact .inl ⟨_, rfl, Nat.le_trans (midLe _ k1) (by decide), mid_bad (c := 100) (by decide +kernel) (by decide +kernel)⟩
      · exact .inl ⟨_, rfl, Nat.le_trans (midLe _ k2) (by decide), mid_bad (c := 66) (by decide +kernel) (by decide +kernel)⟩
      · exact .inl ⟨_, rfl, Nat.le_trans (midLe _ k3) (by decide), mid_bad (c := 32) (by decide +kernel) (by decide +kernel)⟩
      · exact .inl ⟨_, rfl, by decide +kernel, by decide +kernel⟩
      · exact .inl ⟨_, rfl, by decide +kernel, by decide +kernel⟩
    -- return _law_equal(..)
    have f1 : okTxt z 0 24 = true := okTxt_of hz3 (by omega) hz24
    have f2 : okTxt long 0 24 = true := okTxt_of hL3 (by omega) (by omega)
    have f3 : okTxt "" 0 24 = true := by decide +kernel
    refine ⟨_, rfl, _, rfl, .inl ⟨z, rfl, by omega, fun Hk sk => ?_⟩⟩
    refine ⟨_, rfl, _, rfl, .inl ⟨long, rfl, by omega, fun Hl sl => ?_⟩⟩
    refine ⟨_, rfl, .inl ⟨"", rfl, by decide +kernel, fun Hm sm => ?_⟩⟩
    rw [f1, f2, f3]
    refine ⟨_, rfl, ?_⟩
    rcases (Lk.of_same (sk.trans (sl.trans sm))).badS hbad with ⟨y, rfl, h1, h2⟩ | ⟨ty, h1, h2⟩
    · refine ⟨_, rfl, .inl ⟨y, rfl, h1, fun Hn sn => ?_⟩⟩
      rw [h2]
      refine ⟨(by show 4 ≤ sizeLine; decide), fun R2 nR2 => ⟨(by show 4 ≤ sizeLine; decide), fun U2 nU2 => ?_⟩⟩
      exact ⟨.ref R2, .ref U2, .list (([true, true, true, false] : List Bool).map PyData.bool), rfl, .lst (SqL.of (Same.new (Same.refl _) nU2 _ _ upd_same)) (dp_bools [true, true, true, false]), .lst (SqL.of upd_same) (dp_bools [true, true, true, false]), okD_bools (by decide), fun H' _ => q H'⟩
    · refine ⟨_, rfl, .inr ⟨ty, h1, h2, ?_⟩⟩
      refine ⟨(by show 4 ≤ sizeLine; decide), fun R2 nR2 => ⟨(by show 4 ≤ sizeLine; decide), fun U2 nU2 => ?_⟩⟩
      exact ⟨.ref R2, .ref U2, .list (([true, true, true, false] : List Bool).map PyData.bool), rfl, .lst (SqL.of (Same.new (Same.refl _) nU2 _ _ upd_same)) (dp_bools [true, true, true, false]), .lst (SqL.of upd_same) (dp_bools [true, true, true, false]), okD_bools (by decide), fun H' _ => q H'⟩
end
end Sy
namespace Sy
open PySem PySem.Spec PyProof.Rows L2
/-! ### what the top has left; the last theorem -/
set_option maxHeartbeats 0 in
theorem all_mk {l : PySem.W.OpenLaw} {w : World} {K : PySem.W.Frag} {h : Heap} {mg : Str → Option Value} {fa : Addr} (X : K.In h) (G : h.Ns mainGlobals mg) (hfa : mg "law" = some (.ref fa))
    {f0 : Addr} {od0 an0 : Option Addr} {sl0 : Array (Option Value)} {oc0 kV0 dc0 pm0 cd0 ct0 : Value}
    {f1 : Addr} {od1 an1 : Option Addr} {sl1 : Array (Option Value)} {oc1 kV1 dc1 pm1 cd1 ct1 : Value}
    {f2 : Addr} {od2 an2 : Option Addr} {sl2 : Array (Option Value)} {oc2 kV2 dc2 pm2 cd2 ct2 : Value}
    {f3 : Addr} {od3 an3 : Option Addr} {sl3 : Array (Option Value)} {oc3 kV3 dc3 pm3 cd3 ct3 : Value}
    {f4 : Addr} {od4 an4 : Option Addr} {sl4 : Array (Option Value)} {oc4 kV4 dc4 pm4 cd4 ct4 : Value}
    {f5 : Addr} {od5 an5 : Option Addr} {sl5 : Array (Option Value)} {oc5 kV5 dc5 pm5 cd5 ct5 : Value}
    {f6 : Addr} {od6 an6 : Option Addr} {sl6 : Array (Option Value)} {oc6 kV6 dc6 pm6 cd6 ct6 : Value}
    {f7 : Addr} {od7 an7 : Option Addr} {sl7 : Array (Option Value)} {oc7 kV7 dc7 pm7 cd7 ct7 : Value}
    {f8 : Addr} {od8 an8 : Option Addr} {sl8 : Array (Option Value)} {oc8 kV8 dc8 pm8 cd8 ct8 : Value}
    {f9 : Addr} {od9 an9 : Option Addr} {sl9 : Array (Option Value)} {oc9 kV9 dc9 pm9 cd9 ct9 : Value}
    {f10 : Addr} {od10 an10 : Option Addr} {sl10 : Array (Option Value)} {oc10 kV10 dc10 pm10 cd10 ct10 : Value}
    {f11 : Addr} {od11 an11 : Option Addr} {sl11 : Array (Option Value)} {oc11 kV11 dc11 pm11 cd11 ct11 : Value}
    {t0 : Tok}
    {t1 : Tok}
    {t2 : Tok}
    {t3 : Tok}
    (a0 : PySem.W.nsIn K mainGlobals "has_letters" = some (some (.ref f0))) (l0 : K.lookup f0 = some ⟨oc0, od0, .func (PySem.W.fnOf "has_letters" "has_letters" (defArgs sHas) (defBody sHas) (defScope sHas) .none kV0 dc0 pm0 an0 cd0 ct0), sl0⟩) (c0 : PySem.W.codeIn K cd0 "has_letters" = true) (k0 : PySem.W.keepIn K (.ref f0) = true)
    (a1 : PySem.W.nsIn K mainGlobals "are_words" = some (some (.ref f1))) (l1 : K.lookup f1 = some ⟨oc1, od1, .func (PySem.W.fnOf "are_words" "are_words" (defArgs sWords) (defBody sWords) (defScope sWords) .none kV1 dc1 pm1 an1 cd1 ct1), sl1⟩) (c1 : PySem.W.codeIn K cd1 "are_words" = true) (k1 : PySem.W.keepIn K (.ref f1) = true)
    (a2 : PySem.W.nsIn K mainGlobals "is_code" = some (some (.ref f2))) (l2 : K.lookup f2 = some ⟨oc2, od2, .func (PySem.W.fnOf "is_code" "is_code" (defArgs sIsCode) (defBody sIsCode) (defScope sIsCode) .none kV2 dc2 pm2 an2 cd2 ct2), sl2⟩) (c2 : PySem.W.codeIn K cd2 "is_code" = true) (k2 : PySem.W.keepIn K (.ref f2) = true)
    (a3 : PySem.W.nsIn K mainGlobals "is_string" = some (some (.ref f3))) (l3 : K.lookup f3 = some ⟨oc3, od3, .func (PySem.W.fnOf "is_string" "is_string" (defArgs sIsString) (defBody sIsString) (defScope sIsString) .none kV3 dc3 pm3 an3 cd3 ct3), sl3⟩) (c3 : PySem.W.codeIn K cd3 "is_string" = true) (k3 : PySem.W.keepIn K (.ref f3) = true)
    (a4 : PySem.W.nsIn K mainGlobals "_law_stream" = some (some (.ref f4))) (l4 : K.lookup f4 = some ⟨oc4, od4, .func (PySem.W.fnOf "_law_stream" "_law_stream" (defArgs sStream) (defBody sStream) (defScope sStream) .none kV4 dc4 pm4 an4 cd4 ct4), sl4⟩) (c4 : PySem.W.codeIn K cd4 "_law_stream" = true) (k4 : PySem.W.keepIn K (.ref f4) = true)
    (a5 : PySem.W.nsIn K mainGlobals "_law_next" = some (some (.ref f5))) (l5 : K.lookup f5 = some ⟨oc5, od5, .func (PySem.W.fnOf "_law_next" "_law_next" (defArgs sNext) (defBody sNext) (defScope sNext) .none kV5 dc5 pm5 an5 cd5 ct5), sl5⟩) (c5 : PySem.W.codeIn K cd5 "_law_next" = true) (k5 : PySem.W.keepIn K (.ref f5) = true)
    (a6 : PySem.W.nsIn K mainGlobals "_law_is_integer" = some (some (.ref f6))) (l6 : K.lookup f6 = some ⟨oc6, od6, .func (PySem.W.fnOf "_law_is_integer" "_law_is_integer" (defArgs sIsInt) (defBody sIsInt) (defScope sIsInt) .none kV6 dc6 pm6 an6 cd6 ct6), sl6⟩) (c6 : PySem.W.codeIn K cd6 "_law_is_integer" = true) (k6 : PySem.W.keepIn K (.ref f6) = true)
    (a7 : PySem.W.nsIn K mainGlobals "_law_equal" = some (some (.ref f7))) (l7 : K.lookup f7 = some ⟨oc7, od7, .func (PySem.W.fnOf "_law_equal" "_law_equal" (defArgs sEqual) (defBody sEqual) (defScope sEqual) .none kV7 dc7 pm7 an7 cd7 ct7), sl7⟩) (c7 : PySem.W.codeIn K cd7 "_law_equal" = true) (k7 : PySem.W.keepIn K (.ref f7) = true)
    (a8 : PySem.W.nsIn K mainGlobals "_law_pick" = some (some (.ref f8))) (l8 : K.lookup f8 = some ⟨oc8, od8, .func (PySem.W.fnOf "_law_pick" "_law_pick" (defArgs sPick) (defBody sPick) (defScope sPick) .none kV8 dc8 pm8 an8 cd8 ct8), sl8⟩) (c8 : PySem.W.codeIn K cd8 "_law_pick" = true) (k8 : PySem.W.keepIn K (.ref f8) = true)
    (a9 : PySem.W.nsIn K mainGlobals "_law_string" = some (some (.ref f9))) (l9 : K.lookup f9 = some ⟨oc9, od9, .func (PySem.W.fnOf "_law_string" "_law_string" (defArgs sString) (defBody sString) (defScope sString) .none kV9 dc9 pm9 an9 cd9 ct9), sl9⟩) (c9 : PySem.W.codeIn K cd9 "_law_string" = true) (k9 : PySem.W.keepIn K (.ref f9) = true)
    (a10 : PySem.W.nsIn K mainGlobals "_law_code" = some (some (.ref f10))) (l10 : K.lookup f10 = some ⟨oc10, od10, .func (PySem.W.fnOf "_law_code" "_law_code" (defArgs sCode) (defBody sCode) (defScope sCode) .none kV10 dc10 pm10 an10 cd10 ct10), sl10⟩) (c10 : PySem.W.codeIn K cd10 "_law_code" = true) (k10 : PySem.W.keepIn K (.ref f10) = true)
    (a11 : PySem.W.nsIn K mainGlobals "law" = some (some (.ref f11))) (l11 : K.lookup f11 = some ⟨oc11, od11, .func (PySem.W.fnOf "law" "law" (defArgs sLaw) (defBody sLaw) (defScope sLaw) .none kV11 dc11 pm11 an11 cd11 ct11), sl11⟩) (c11 : PySem.W.codeIn K cd11 "law" = true) (k11 : PySem.W.keepIn K (.ref f11) = true)
    (yy0 : PySem.W.nsIn K mainGlobals "LETTERS" = some (some (.str "abc" t0)))
    (yy1 : PySem.W.nsIn K mainGlobals "MOST_WORDS" = some (some (.int 6 t1)))
    (yy2 : PySem.W.nsIn K mainGlobals "MOST_WORD_LETTERS" = some (some (.int 5 t2)))
    (yy3 : PySem.W.nsIn K mainGlobals "MOST_STRING_LETTERS" = some (some (.int 24 t3)))
    (z_isinstance : PySem.W.nsIn K mainGlobals "isinstance" = some none)
    (z_str : PySem.W.nsIn K mainGlobals "str" = some none)
    (z_len : PySem.W.nsIn K mainGlobals "len" = some none)
    (z_all : PySem.W.nsIn K mainGlobals "all" = some none)
    (z_tuple : PySem.W.nsIn K mainGlobals "tuple" = some none)
    (z_set : PySem.W.nsIn K mainGlobals "set" = some none)
    (z_list : PySem.W.nsIn K mainGlobals "list" = some none)
    (z_abs : PySem.W.nsIn K mainGlobals "abs" = some none)
    (z_int : PySem.W.nsIn K mainGlobals "int" = some none)
    (z_bool : PySem.W.nsIn K mainGlobals "bool" = some none)
    (z_range : PySem.W.nsIn K mainGlobals "range" = some none) :
    ∃ fd : FuncData, (∀ (s : Shared) (v : Value), BindsTo s fd ⟨[v], []⟩ [("script", v)]) ∧ ∀ base : Heap, K.In base → base.Ns mainGlobals mg → FnOk l.prog w K mg base CX0 5 fa fd ["script"] (spLaw K) := by
  have e := hfa.symm.trans (PySem.W.mg_of X G a11)
  cases e
  have F0 := fun_mk (st := sHas) l0 c0 k0
  have b0 := F0.binds (ps := ["value", "least", "most"]) fun _ _ _ _ _ _ us hl => match us, hl with | [_, _, _], _ => rfl
  have m0 := PySem.W.mg_of X G a0
  have F1 := fun_mk (st := sWords) l1 c1 k1
  have b1 := F1.binds (ps := ["value", "many", "letters"]) fun _ _ _ _ _ _ us hl => match us, hl with | [_, _, _], _ => rfl
  have m1 := PySem.W.mg_of X G a1
  have F2 := fun_mk (st := sIsCode) l2 c2 k2
  have b2 := F2.binds (ps := ["value"]) fun _ _ _ _ _ _ us hl => match us, hl with | [_], _ => rfl
  have m2 := PySem.W.mg_of X G a2
  have F3 := fun_mk (st := sIsString) l3 c3 k3
  have b3 := F3.binds (ps := ["value"]) fun _ _ _ _ _ _ us hl => match us, hl with | [_], _ => rfl
  have m3 := PySem.W.mg_of X G a3
  have F4 := fun_mk (st := sStream) l4 c4 k4
  have b4 := F4.binds (ps := ["script"]) fun _ _ _ _ _ _ us hl => match us, hl with | [_], _ => rfl
  have m4 := PySem.W.mg_of X G a4
  have F5 := fun_mk (st := sNext) l5 c5 k5
  have b5 := F5.binds (ps := ["stream", "many"]) fun _ _ _ _ _ _ us hl => match us, hl with | [_, _], _ => rfl
  have m5 := PySem.W.mg_of X G a5
  have F6 := fun_mk (st := sIsInt) l6 c6 k6
  have b6 := F6.binds (ps := ["actual"]) fun _ _ _ _ _ _ us hl => match us, hl with | [_], _ => rfl
  have m6 := PySem.W.mg_of X G a6
  have F7 := fun_mk (st := sEqual) l7 c7 k7
  have b7 := F7.binds (ps := ["actual", "due"]) fun _ _ _ _ _ _ us hl => match us, hl with | [_, _], _ => rfl
  have m7 := PySem.W.mg_of X G a7
  have F8 := fun_mk (st := sPick) l8 c8 k8
  have b8 := F8.binds (ps := ["stream", "rows"]) fun _ _ _ _ _ _ us hl => match us, hl with | [_, _], _ => rfl
  have m8 := PySem.W.mg_of X G a8
  have F9 := fun_mk (st := sString) l9 c9 k9
  have b9 := F9.binds (ps := ["stream", "least", "most", "letters"]) fun _ _ _ _ _ _ us hl => match us, hl with | [_, _, _, _], _ => rfl
  have m9 := PySem.W.mg_of X G a9
  have F10 := fun_mk (st := sCode) l10 c10 k10
  have b10 := F10.binds (ps := ["stream", "many", "most"]) fun _ _ _ _ _ _ us hl => match us, hl with | [_, _, _], _ => rfl
  have m10 := PySem.W.mg_of X G a10
  have F11 := fun_mk (st := sLaw) l11 c11 k11
  have m11 := PySem.W.mg_of X G a11
  have mc0 := PySem.W.mg_of X G yy0
  have mc1 := PySem.W.mg_of X G yy1
  have mc2 := PySem.W.mg_of X G yy2
  have mc3 := PySem.W.mg_of X G yy3
  have n_isinstance := PySem.W.mg_none_of X G z_isinstance
  have n_str := PySem.W.mg_none_of X G z_str
  have n_len := PySem.W.mg_none_of X G z_len
  have n_all := PySem.W.mg_none_of X G z_all
  have n_tuple := PySem.W.mg_none_of X G z_tuple
  have n_set := PySem.W.mg_none_of X G z_set
  have n_list := PySem.W.mg_none_of X G z_list
  have n_abs := PySem.W.mg_none_of X G z_abs
  have n_int := PySem.W.mg_none_of X G z_int
  have n_bool := PySem.W.mg_none_of X G z_bool
  have n_range := PySem.W.mg_none_of X G z_range
  refine ⟨PySem.W.fnOf "law" "law" (defArgs sLaw) (defBody sLaw) (defScope sLaw) .none kV11 dc11 pm11 an11 cd11 ct11, fun s v => .of_eq rfl, fun base _ _ => ?_⟩
  have GH : FnOk l.prog w K mg base CX0 1 f0 _ ["value", "least", "most"] (spHas K) := ok_has F0 mc0 n_isinstance n_str n_len n_all
  have GW := ok_words F1 F0 GH b0 m0 n_isinstance n_tuple n_len n_all n_set
  have GC := ok_iscode F2 GW k1 b1 m1 mc1 mc2
  have GZ := ok_isstring F3 F0 GH b0 m0 mc3
  have GS : FnOk l.prog w K mg base CX0 1 f4 _ ["script"] (spStream K) := ok_stream F4 n_list
  have GN : FnOk l.prog w K mg base CX0 1 f5 _ ["stream", "many"] spNext := ok_next F5 n_len n_abs n_int
  have GI : FnOk l.prog w K mg base CX0 1 f6 _ ["actual"] spIsInt := ok_isint F6 n_isinstance n_int n_bool
  have GE := ok_equal F7 b7 m7 F6 GI b6 m6 n_isinstance n_bool n_int n_str n_tuple n_list n_len n_all n_range 2
  have GP := ok_pick F8 F5 GN b5 m5 n_len
  have GT := ok_string F9 F5 GN b5 m5 n_range
  have GD := ok_code F10 F5 GN b5 m5 F8 GP b8 m8 F9 GT b9 m9 n_range n_tuple
  exact ok_law F11 ⟨⟨_, _, m4, k4, b4, GS⟩, ⟨_, _, m5, k5, b5, GN⟩, ⟨_, _, m8, k8, b8, GP⟩, ⟨_, _, m9, k9, b9, GT⟩, ⟨_, _, m10, k10, b10, GD⟩, ⟨_, _, m7, k7, b7, GE⟩, ⟨_, _, m2, k2, b2, GC⟩, ⟨_, _, m3, k3, b3, GZ⟩, n_len, n_list, n_range⟩
end Sy
open PySem PySem.W PyProof.Rows
set_option maxHeartbeats 0 in
theorem PySem.Challenge.cw_syncedwords_k01_forms_of_codes_holds : PySem.Challenge.rw_syncedwords_k01_forms_of_codes.Holds := by
  w_on; o_law; k_head; (case hw => w_witness2)
  k_fill
  refine L2.walk_of (l := PySem.Challenge.rw_syncedwords_k01_forms_of_codes) (n := 63) (k := 5) (x := "script") (CX := fun _ => L2.CX0) (sp := fun w => Sy.spLaw _) rfl (by decide) rfl ⟨rfl, by decide, by decide⟩ (fun w h Y => PySem.W.kIn_of Y) ?F (fun _ _ a ns hl _ hS => ⟨a, ns, rfl, hS, hl, fun _ => rfl⟩) (fun _ _ _ _ _ h => h)
  case F =>
    intro w mg fa h KX G hmg
    refine' Sy.all_mk KX G hmg ?a0 ?l0 ?c0 ?k0 ?a1 ?l1 ?c1 ?k1 ?a2 ?l2 ?c2 ?k2 ?a3 ?l3 ?c3 ?k3 ?a4 ?l4 ?c4 ?k4 ?a5 ?l5 ?c5 ?k5 ?a6 ?l6 ?c6 ?k6 ?a7 ?l7 ?c7 ?k7 ?a8 ?l8 ?c8 ?k8 ?a9 ?l9 ?c9 ?k9 ?a10 ?l10 ?c10 ?k10 ?a11 ?l11 ?c11 ?k11 ?yy0 ?yy1 ?yy2 ?yy3 ?z_isinstance ?z_str ?z_len ?z_all ?z_tuple ?z_set ?z_list ?z_abs ?z_int ?z_bool ?z_range
    (case a0 => k_is)
    (case l0 => k_is)
    (case c0 => k_is)
    (case k0 => k_is)
    (case a1 => k_is)
    (case l1 => k_is)
    (case c1 => k_is)
    (case k1 => k_is)
    (case a2 => k_is)
    (case l2 => k_is)
    (case c2 => k_is)
    (case k2 => k_is)
    (case a3 => k_is)
    (case l3 => k_is)
    (case c3 => k_is)
    (case k3 => k_is)
    (case a4 => k_is)
    (case l4 => k_is)
    (case c4 => k_is)
    (case k4 => k_is)
    (case a5 => k_is)
    (case l5 => k_is)
    (case c5 => k_is)
    (case k5 => k_is)
    (case a6 => k_is)
    (case l6 => k_is)
    (case c6 => k_is)
    (case k6 => k_is)
    (case a7 => k_is)
    (case l7 => k_is)
    (case c7 => k_is)
    (case k7 => k_is)
    (case a8 => k_is)
    (case l8 => k_is)
    (case c8 => k_is)
    (case k8 => k_is)
    (case a9 => k_is)
    (case l9 => k_is)
    (case c9 => k_is)
    (case k9 => k_is)
    (case a10 => k_is)
    (case l10 => k_is)
    (case c10 => k_is)
    (case k10 => k_is)
    (case a11 => k_is)
    (case l11 => k_is)
    (case c11 => k_is)
    (case k11 => k_is)
    (case yy0 => k_is)
    (case yy1 => k_is)
    (case yy2 => k_is)
    (case yy3 => k_is)
    (case z_isinstance => k_is)
    (case z_str => k_is)
    (case z_len => k_is)
    (case z_all => k_is)
    (case z_tuple => k_is)
    (case z_set => k_is)
    (case z_list => k_is)
    (case z_abs => k_is)
    (case z_int => k_is)
    (case z_bool => k_is)
    (case z_range => k_is)
