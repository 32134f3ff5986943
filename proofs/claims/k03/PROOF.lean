import PyProof.Rows.All
import Wide.All
import OpenK.AllK
import Wide.FinOn
import HandS.Base
import HandS.Call
import HandS.List
import HandS.Comp
import HandS.Iter
import HandS.Text
import HandS.Ends
import HandS.Words
import HandS.WordsList
import HandS.IsInst
import HandS.Strs
import KE.KxIndex
import KE.KEqSeq
import HandS.Exc
import HandS.ExcOwn
import HandS.ExcField
import HandS.WordsExc
import HandS.ExcInit
import HandS.RevRange
import HandS.Conv
import HandS.Style
import KE.KRevSl
import PyProof.Rows.SortStr
import KE.GoesMore
import HandS.Walk
import HandS.Replace
import HandS.SortOrd
import HandS.SortRule
import HandS.TupSets
import HandS.Codes
import HandS.TupAny
import PySem.Challenge.RW_syncedwords_k03_parses_of_longer_strings
set_option Elab.async false
set_option linter.all false
set_option maxRecDepth 100000
/-! Syncedwords, part 1: a set made of a tuple of texts, a text times a number, heaps but for one place. -/
namespace Sy
open PySem PySem.Spec PyProof.Rows

/-! ### the texts of a list, each once, as they are first met -/
def met (xs : List Str) : List Str := xs.foldl (fun acc x => if acc.any (· == x) then acc else acc ++ [x]) []
theorem met_snoc (xs : List Str) (x : Str) : met (xs ++ [x]) = if (met xs).any (· == x) then met xs else met xs ++ [x] := by
  unfold met
  rw [List.foldl_append]
  rfl
theorem met_take {xs : List Str} {i : Nat} (h : i < xs.length) : met (xs.take (i + 1)) = if (met (xs.take i)).any (· == xs[i]) then met (xs.take i) else met (xs.take i) ++ [xs[i]] := by
  rw [List.take_add_one, List.getElem?_eq_getElem h]
  exact met_snoc _ _
theorem any_mem {xs : List Str} {x : Str} : xs.any (· == x) = true ↔ x ∈ xs := by
  rw [List.any_eq_true]
  constructor
  · rintro ⟨y, hy, e⟩
    rw [← beq_iff_eq.mp e]
    exact hy
  · intro h
    exact ⟨x, h, beq_self_eq_true x⟩
/-- induction from the end -/
theorem snoc_ind {α : Type} {P : List α → Prop} (h0 : P []) (h1 : ∀ xs x, P xs → P (xs ++ [x])) (xs : List α) : P xs := by
  have h : ∀ r : List α, P r.reverse := by
    intro r
    induction r with
    | nil => exact h0
    | cons a r ih =>
      rw [List.reverse_cons]
      exact h1 _ _ ih
  have := h xs.reverse
  rw [List.reverse_reverse] at this
  exact this
theorem met_mem (k : Str) (xs : List Str) : k ∈ met xs ↔ k ∈ xs := by
  refine snoc_ind (P := fun xs => k ∈ met xs ↔ k ∈ xs) Iff.rfl (fun xs x ih => ?_) xs
  rw [met_snoc]
  by_cases h : (met xs).any (· == x) = true
  · rw [if_pos h]
    have hx := any_mem.mp h
    constructor
    · intro q
      exact List.mem_append_left _ (ih.mp q)
    · intro q
      rcases List.mem_append.mp q with q | q
      · exact ih.mpr q
      · rw [List.mem_singleton.mp q]
        exact hx
  · rw [if_neg h, List.mem_append, List.mem_append, ih]
theorem met_le (xs : List Str) : (met xs).length ≤ xs.length := by
  refine snoc_ind (P := fun xs => (met xs).length ≤ xs.length) (Nat.le_refl _) (fun xs x ih => ?_) xs
  rw [met_snoc, List.length_append]
  split
  · exact Nat.le_succ_of_le ih
  · rw [List.length_append]
    exact Nat.add_le_add_right ih _
theorem nodup_snoc {α : Type} {xs : List α} {x : α} : (xs ++ [x]).Nodup ↔ xs.Nodup ∧ x ∉ xs := by
  rw [List.nodup_append]
  constructor
  · rintro ⟨a, _, c⟩
    exact ⟨a, fun h => c x h x (List.mem_singleton.mpr rfl) rfl⟩
  · rintro ⟨a, b⟩
    refine ⟨a, List.nodup_cons.mpr ⟨by simp, List.nodup_nil⟩, fun y hy z hz e => ?_⟩
    rw [List.mem_singleton.mp hz] at e
    exact b (e ▸ hy)
theorem met_len (xs : List Str) : (met xs).length = xs.length ↔ xs.Nodup := by
  refine snoc_ind (P := fun xs => (met xs).length = xs.length ↔ xs.Nodup) (by simp [met]) (fun xs x ih => ?_) xs
  rw [met_snoc, nodup_snoc, List.length_append, ← ih]
  have hle := met_le xs
  by_cases h : (met xs).any (· == x) = true
  · rw [if_pos h]
    have hx : x ∈ xs := (met_mem x xs).mp (any_mem.mp h)
    constructor
    · intro q
      exfalso
      have : [x].length = 1 := rfl
      omega
    · rintro ⟨_, n⟩
      exact absurd hx n
  · rw [if_neg h, List.length_append]
    have hx : x ∉ xs := fun q => h (any_mem.mpr ((met_mem x xs).mpr q))
    constructor
    · intro q
      exact ⟨by omega, hx⟩
    · rintro ⟨q, _⟩
      rw [q]

/-! ### set(xs), xs a tuple of texts -/
section
variable {prog : Program} {w : World} {A : Around} {R : Result → Shared → Prop} {I : Addr} {fp wr : List Addr} {G : Array GenState → Array GenState → Prop} {n : Nat} {P : Nat → Value → Prop} {St : Nat → Shared → Prop}
/-- the machine's loop that puts the items in, from the i-th on -/
theorem set_loop (W : WalksS prog w A.in1 I fp wr G n P St) (S : Addr) (out : S ∉ fp) (xs : List Str) (hn : xs.length = n) (hb : n + 1 < scanBound) (val : ∀ i v, P i v → ∃ t, v = .str (xs.getD i Str.empty) t) :
    ∀ (k i : Nat) (s : Shared), n - i = k → i ≤ n → St i s → s.heap.SetOf (PySem.strKind prog w) S (fun y => (met (xs.take i)).any (· == y)) (met (xs.take i)).length →
      (∀ s', Moved (S :: wr) G s s' → s'.heap.SetOf (PySem.strKind prog w) S (fun y => (met xs).any (· == y)) (met xs).length → R (.ok (.ret .none)) s') →
      codeAny (model prog w) A (.builtin "set.update.loop" ⟨[.ref S, .ref I], []⟩) R s
  | 0, i, s, hk, hi, st, hS, fin => by
    obtain rfl : i = n := by omega
    refine codeAny_builtin PyProof.Rows.F.entry_set_update_loop ?_
    rw [Around.under_plainId PyProof.Rows.F.plain_set_update_loop _]
    show wpAny _ A.in1 (pyNext (.ref I) >>= _) _ _ s
    refine wpAny_bind (W.done s _ _ st fun s' hm => ?_)
    show wpAny _ A.in1 (ret Value.none) _ _ s'
    rw [List.take_of_length_le (Nat.le_of_eq hn)] at hS
    refine wpAny_pure (fin s' (hm.mono fun b hb => List.mem_cons_of_mem _ hb) ?_)
    obtain ⟨o, es, ep, t, ho, more⟩ := hS
    exact ⟨o, es, ep, t, hm.heap S _ (fun z => out (W.sub _ z)) ho, more⟩
  | k + 1, i, s, hk, hi, st, hS, fin => by
    have lt : i < n := by omega
    have ltx : i < xs.length := by omega
    refine codeAny_builtin PyProof.Rows.F.entry_set_update_loop ?_
    rw [Around.under_plainId PyProof.Rows.F.plain_set_update_loop _]
    show wpAny _ A.in1 (pyNext (.ref I) >>= _) _ _ s
    refine wpAny_bind (W.item i s _ _ lt st fun v s' hP st' hm => ?_)
    obtain ⟨t, rfl⟩ := val i v hP
    have ex : xs.getD i Str.empty = xs[i] := by
      rw [List.getD_eq_getElem?_getD, List.getElem?_eq_getElem ltx] <;> rfl
    rw [ex]
    have hS' : s'.heap.SetOf (PySem.strKind prog w) S (fun y => (met (xs.take i)).any (· == y)) (met (xs.take i)).length := by
      obtain ⟨o, es, ep, tb, ho, more⟩ := hS
      exact ⟨o, es, ep, tb, hm.heap S _ (fun z => out (W.sub _ z)) ho, more⟩
    show wpAny _ A.in1 (holding [Value.str xs[i] t] (setAdd S (.str xs[i] t)) >>= _) _ _ s'
    refine wpAny_bind (wpAny_holding ?_)
    unfold setAdd
    refine wpAny_holding ?_
    refine wpAny_bind ((PySem.strKind prog w).pyHash (k := xs[i]) (strKind_is _ _ _ _) ?_)
    have room : (met (xs.take i)).length + 1 < scanBound := by
      have h1 := met_le (xs.take i)
      rw [List.length_take] at h1
      omega
    refine wpAny_setAddHashed_of (knd := PySem.strKind prog w) (s := { s' with toks := s'.toks + 1 }) (strKind_is _ _ _ _) rfl hS' room fun h' sb new => ?_
    have next : h'.SetOf (PySem.strKind prog w) S (fun y => (met (xs.take (i + 1))).any (· == y)) (met (xs.take (i + 1))).length := by
      refine SetOf_congr new (fun y => ?_) ?_
      · rw [met_take ltx]
        by_cases q : (met (xs.take i)).any (· == xs[i]) = true
        · rw [if_pos q]
          by_cases e : y = xs[i]
          · subst e
            rw [q]
            rfl
          · rw [decide_eq_false e, Bool.or_false]
        · rw [if_neg q, List.any_append]
          congr 1
          rw [List.any_cons, List.any_nil, Bool.or_false]
          by_cases e : y = xs[i]
          · subst e
            rw [beq_self_eq_true, decide_eq_true rfl]
          · rw [decide_eq_false e]
            exact (beq_eq_false_iff_ne.mpr fun z => e z.symm).symm
      · rw [met_take ltx]
        by_cases q : (met (xs.take i)).any (· == xs[i]) = true
        · rw [if_pos q, if_pos q]
        · rw [if_neg q, if_neg q, List.length_append] <;> rfl
    refine wpAny_pure ⟨plainId_quiet PyProof.Rows.F.plain_set_update_loop _, set_loop W S out xs hn hb val k (i + 1) _ (by omega) lt (W.frame _ s' _ _ st' (Nat.le_succ _) fun b hb' o e => ?_) next fun s'' hm' hS'' => ?_⟩
    · rw [sb.2 b fun z => out (z ▸ hb')]
      exact e
    · refine fin s'' (Moved.trans W.gtrans ((hm.mono fun b hb' => List.mem_cons_of_mem _ hb').then_heap (Nat.le_succ _) fun b o hb' e => ?_) hm') hS''
      rw [sb.2 b fun z => hb' (z ▸ List.mem_cons_self)]
      exact e
end
section
variable {prog : Program} {w : World} {A : Around} {E : Value → Shared → Prop} {s : Shared}
/-- the empty set object as it is made -/
abbrev emptySet (led : Bool) : Obj := { cls := .type "set", dict := none, data := .set #[] 0 (.fresh 0 0 led) }
set_option maxHeartbeats 3200000 in
theorem call_set_txt {l : Addr} {items : Array Value} {xs : List Str} {Q : Value → Shared → Prop} (hh : A.handled = none) (hl : s.heap.IsTuple l items) (hi : PyProof.Rows.StrsAre items.toList xs) (hb : xs.length + 1 < scanBound)
    (h : ∀ (h' : Heap) (tk : Nat), h'.SetOf (PySem.strKind prog w) s.heap.objs.size (fun y => (met xs).any (· == y)) (met xs).length →
      (∀ b o, b < s.heap.objs.size → s.heap.get? b = some o → h'.get? b = some o) → Q (.ref s.heap.objs.size) { s with heap := h', toks := tk }) :
    wpAny (model prog w) A (call (.type "set") [.ref l]) Q E s := by
  obtain ⟨c, tl, hmro⟩ := PySem.F.called_set.mro
  have hmade := PySem.F.called_set.made
  have hsub := PySem.F.called_set.sub
  refine wpAny_call (codeAny_of_tree ?_)
  show wpAny _ _ (callAny (.type "set") _) _ _ _
  refine wpAny_pure ⟨Code.quiet_builtin _ (by decide +kernel), codeAny_builtin PySem.F.entry_type_call ?_⟩
  rw [Around.under_plain (weight_type_call_type "set" [.ref l] []) rfl]
  have h1 := PySem.F.called_set.notType
  have h2 := PySem.F.called_set.canCreate
  have hct := PySem.F.typeCall_set_1 (.ref l)
  repeat (any_goals (first | assumption | wp_step))
  refine codeAny_mono (code_set_new_1 (.ref l) (E := E) (Q₁ := fun obj s₁ => ∃ led : Bool, obj = .ref s.heap.objs.size ∧ s₁ = { s with heap := s.heap.push (emptySet led) }) fun led => ⟨led, rfl, rfl⟩) fun r s₁ hr => ?_
  cases r with
  | error e => exact hr
  | ok fl =>
    cases fl with
    | next => exact hr.elim
    | brk => exact hr.elim
    | cont => exact hr.elim
    | ret obj =>
    obtain ⟨led, rfl, rfl⟩ := hr
    have hS : (s.heap.push (emptySet led)).get? s.heap.objs.size = some (emptySet led) := Heap.get?_push_size _ rfl
    have hT : Shared.TypeIs { s with heap := s.heap.push (emptySet led) } (.ref s.heap.objs.size) "set" := ⟨_, hS, rfl⟩
    have hli := PySem.F.called_set.init.lookup
    have hbi := PySem.F.called_set.init.bind (.ref s.heap.objs.size)
    repeat (any_goals (first | assumption | wp_step))
    refine codeAny_mono (codeAny_call_builtin (R := wants (fun r s₂ => r = .none ∧ ∃ h' tk, s₂ = { s with heap := h', toks := tk } ∧ h'.SetOf (PySem.strKind prog w) s.heap.objs.size (fun y => (met xs).any (· == y)) (met xs).length ∧
      (∀ b o, b < s.heap.objs.size → s.heap.get? b = some o → h'.get? b = some o)) E) PySem.F.called_set.init.plain PySem.F.entry_set_init (check_set_init_1 hT ?_)) fun r₂ s₂ hr₂ => ?_
    · obtain ⟨⟨ocls, odict, odata, oslots⟩, hol, hcl, nl, hdl⟩ := hl
      simp only at hcl hdl
      subst hcl; subst hdl
      have hol' : (s.heap.push (emptySet led)).get? l = some { cls := .type "tuple", dict := odict, data := .seq items nl, slots := oslots } := Heap.get?_push_of_some _ hol
      have hsls := PySem.F.sub_tuple_set
      have hslf := PySem.F.sub_tuple_frozenset
      have hne : (Value.type "tuple" == Value.type "dict") = false := by decide
      have hl1 : (s.heap.push (emptySet led)).IsTuple l items := ⟨_, hol', rfl, nl, rfl⟩
      unfold Builtin.«set.__init__» noKeywords Builtin.Frozenset.updateFrom
      generalize hPI : pyIter = PI
      wp_walk
      subst hPI
      refine wpAny_pyIter_tuple hl1 ?_
      refine wpAny_bind (wpAny_runValue ?_)
      have hlS : l < s.heap.objs.size := Heap.lt_size hol
      have hh3 : A.in1.in1.in1.handled = none := by simp [hh]
      have hneI : l ≠ (s.heap.push (emptySet led)).objs.size := by
        rw [Heap.size_push]
        exact Nat.ne_of_lt (Nat.lt_succ_of_lt hlS)
      have out : s.heap.objs.size ∉ [(s.heap.push (emptySet led)).objs.size, l] := by
        rw [Heap.size_push]
        simp only [List.mem_cons, List.not_mem_nil, or_false, not_or]
        exact ⟨Nat.ne_of_lt (Nat.lt_succ_self _), Nat.ne_of_gt hlS⟩
      have hsz : xs.length = items.size := by rw [← StrsAre.len_eq hi, Array.length_toList]
      refine set_loop ((Walks.tuple hh3 _ l hneI items).toS) s.heap.objs.size out xs hsz (by omega) (fun i v hv => SS.strs_at hi i v (by rw [Array.getElem?_toList]; exact hv)) (items.size - 0) 0 _ (by omega) (Nat.zero_le _)
        ⟨⟨_, Heap.get?_push_size _ rfl, rfl, rfl⟩, (hl1.push _)⟩ ?h0 fun s' hm hS' => ?_
      case h0 =>
        refine PyProof.Rows.SetOf_congr ((PyProof.Rows.setObjOf_fresh (knd := PySem.strKind prog w) led).setOf (a := s.heap.objs.size) (Heap.get?_push_of_some _ hS) (by unfold scanBound; omega)) (fun _ => rfl) rfl
      obtain ⟨h', g', d', tk', os'⟩ := s'
      obtain rfl : g' = s.gens := hm.gens
      obtain rfl : d' = s.drawn := hm.drawn
      obtain rfl : os' = s.os := hm.os
      show wpAny _ _ _ _ _ _
      refine wpAny_pure ?_
      show wpAny _ _ (ret Value.none) _ _ _
      refine wpAny_pure ⟨rfl, h', tk', rfl, hS', fun b o hb' e => hm.heap b o ?_ (Heap.get?_push_of_some _ (Heap.get?_push_of_some _ e))⟩
      rw [Heap.size_push]
      simp only [List.mem_cons, List.not_mem_nil, or_false, not_or]
      exact ⟨Nat.ne_of_lt hb', Nat.ne_of_lt (Nat.lt_succ_of_lt hb')⟩
    · cases r₂ with
      | error e => exact hr₂
      | ok f2 =>
        cases f2 with
        | next => exact hr₂.elim
        | brk => exact hr₂.elim
        | cont => exact hr₂.elim
        | ret r =>
          obtain ⟨rfl, h', tk, rfl, hS', hk'⟩ := hr₂
          repeat (any_goals (first | assumption | wp_step))
          exact h _ _ hS' hk'
end
end Sy
namespace L2
open PySem PySem.Spec PyProof.Rows
section
variable {X : Cx}
/-- len(set(t)), t a tuple of texts: how many there are, each once -/
def tLenTxt (K : PySem.W.Frag) (ta : TE) : TE := fun σ H Q => ta σ H fun x H1 => ∃ (l : Addr) (xs : List Str), x = V.ref l ∧ SqT K H1 l (xs.map V.str) ∧ xs.length ≤ 1000 ∧ Q (.int ((Sy.met xs).length : Nat)) H1
theorem pe_lenTxt {a : Expr} {ta : TE} {p p2 q pos : Pos} (hc : X.calm = true) (hg : Gl X "len") (hm : X.mg "len" = none) (hg2 : Gl X "set") (hm2 : X.mg "set" = none) (ha : PE X a ta)
    (na : starEach [a] X.env = (false, eval a X.env) :: starEach [] X.env := by rfl) : PE X (.Call (.Name "len" p) [.Call (.Name "set" p2) [a] [] q] [] pos) (tLenTxt X.K ta) := by
  refine ⟨fun pins s σ H Q I h => ?_⟩
  refine Call_ (ld_blt I hg hm PySem.boot_len ?_)
  refine PyProof.Rows.callWith_builtin1 (PyProof.Rows.args_cons ?_ rfl) rfl rfl
  refine Call_ (ld_blt I hg2 hm2 PyProof.Rows.boot_set ?_)
  refine PyProof.Rows.callWith_type1 (PyProof.Rows.args_cons (thn (ha.run pins s σ H _ I h) fun v s1 ⟨x, H1, I1, r1, q1⟩ => PyProof.Rows.args_nil ?_) na) na rfl
  obtain ⟨l, xs, rfl, hq, hl, q1⟩ := q1
  cases r1
  obtain ⟨its, r, pl, hz⟩ := I1.tuple hq
  have hle := Sy.met_le xs
  refine Sy.call_set_txt (I1.ok.hd hc) pl (by simpa using strsAre_of r) (by unfold scanBound; omega) fun h' tk hS hk => ?_
  refine PyProof.Rows.args_nil ?_
  obtain ⟨o, es, ep, t, ho, hex, hd, _, _, _, hf, hn⟩ := hS
  have I2 : Inv X pins σ H1 { s1 with heap := h', toks := tk } := I1.kept fun b o e => hk b o (Heap.lt_size e) e
  exact call_len_set ho hex hd hf (by rw [hn] <;> omega) ⟨.int ((Sy.met xs).length : Nat), H1, I2.tok _, ⟨_, by rw [hn]⟩, q1⟩
/-- a text times a number -/
theorem op_mul_txt : OpR X (binaryOp .Mult) (fun x y H Q => ∃ z n, x = .str z ∧ y = .int n ∧ z.length ≤ 16 ∧ 0 ≤ n ∧ n ≤ 1000 ∧ Q (.str (Txt.mul z n)) H) := by
  intro pins s σ H x y v u Q I rx ry h
  obtain ⟨z, n, rfl, rfl, h1, h2, h3, q⟩ := h
  obtain ⟨t, rfl⟩ := rx
  obtain ⟨t', rfl⟩ := ry
  exact PySem.W.KXi.mul rfl h1 (by omega) (by omega) fun t' k _ _ => ⟨.str (Txt.mul z n), H, I.tok _, ⟨_, rfl⟩, q⟩
end
end L2
namespace Sy
open PySem PySem.Spec PyProof.Rows L2
/-! ### all that was tracked stands as it was, but what stands at a -/
def Keep (a : Addr) (H H' : Hp) : Prop := ∀ b o, b ≠ a → H b = some o → H' b = some o
theorem Keep.refl {a : Addr} (H : Hp) : Keep a H H := fun _ _ _ e => e
theorem Keep.trans {a : Addr} {H H1 H2 : Hp} (k : Keep a H H1) (l : Keep a H1 H2) : Keep a H H2 := fun b o n e => l b o n (k b o n e)
theorem Keep.of_same {a : Addr} {H H' : Hp} (s : Same H H') : Keep a H H' := fun b o _ e => s b o e
theorem Keep.new {a p : Addr} {o : HO} {H H1 : Hp} (k : Keep a H H1) (n : H1 p = none) : Keep a H (upd H1 p o) := fun b u nb e => by
  rw [upd_ne (ne_of_none (k b u nb e) n)]
  exact k b u nb e
theorem Keep.put {a : Addr} {o : HO} {H H1 : Hp} (k : Keep a H H1) : Keep a H (upd H1 a o) := fun b u nb e => by
  rw [upd_ne nb]
  exact k b u nb e
theorem Same.new {p : Addr} {o : HO} {H H1 : Hp} (k : Same H H1) (n : H1 p = none) : Same H (upd H1 p o) := fun b u e => by
  rw [upd_ne (ne_of_none (k b u e) n)]
  exact k b u e
theorem Same.tup {K : PySem.W.Frag} {H H' : Hp} {b : Addr} {xs : List V} (k : Same H H') (h : SqT K H b xs) : SqT K H' b xs := by
  rcases h with (h | ⟨o, h⟩) | h
  · exact .inl (.inl (k _ _ h))
  · exact .inl (.inr ⟨o, k _ _ h⟩)
  · exact .inr h
/-- what is tracked elsewhere is read as before -/
theorem Keep.lst {a b : Addr} {xs : List V} {H H' : Hp} (k : Keep a H H') (n : b ≠ a) (h : H b = some (.lst xs)) : H' b = some (.lst xs) := k b _ n h
theorem Keep.tup {K : PySem.W.Frag} {a b : Addr} {xs ys : List V} {H H' : Hp} (k : Keep a H H') (hs : H a = some (.lst ys)) (h : SqT K H b xs) : SqT K H' b xs := by
  rcases h with (h | ⟨o, h⟩) | h
  · exact .inl (.inl (k _ _ (ne_of h hs (by intro z; cases z)) h))
  · exact .inl (.inr ⟨o, k _ _ (ne_of h hs (by intro z; cases z)) h⟩)
  · exact .inr h
end Sy
/-! Syncedwords: how many parses a string has, from the left and from the right; parses by their index. Plain lists. -/
namespace SyM
/-- w stands at the beginning of s; at its end -/
def pre (w s : List Nat) : Bool := decide (s.take w.length = w)
def suf (w s : List Nat) : Bool := decide (w.length ≤ s.length ∧ s.drop (s.length - w.length) = w)
theorem pre_le {w s : List Nat} (h : pre w s = true) : w.length ≤ s.length := by
  have e := congrArg List.length (of_decide_eq_true h)
  rw [List.length_take] at e
  omega
theorem pre_nil {w : List Nat} (h : w ≠ []) : pre w [] = false := by
  unfold pre
  rw [List.take_nil]
  exact decide_eq_false fun e => h e.symm
/-- the sum of f over a list -/
def sumL {α : Type} (f : α → Nat) : List α → Nat
  | [] => 0
  | x :: xs => f x + sumL f xs
theorem sumL_map {α : Type} (f : α → Nat) : ∀ xs : List α, (xs.map f).sum = sumL f xs
  | [] => rfl
  | x :: xs => by rw [List.map_cons, List.sum_cons, sumL_map f xs, sumL]
theorem sumL_congr {α : Type} {f g : α → Nat} : ∀ {xs : List α}, (∀ x ∈ xs, f x = g x) → sumL f xs = sumL g xs
  | [], _ => rfl
  | x :: xs, h => by rw [sumL, sumL, h x List.mem_cons_self, sumL_congr fun y hy => h y (List.mem_cons_of_mem _ hy)]
theorem sumL_add {α : Type} (f g : α → Nat) : ∀ xs : List α, sumL (fun x => f x + g x) xs = sumL f xs + sumL g xs
  | [] => rfl
  | x :: xs => by
    rw [sumL, sumL, sumL, sumL_add f g xs]
    omega
theorem sumL_zero {α : Type} {f : α → Nat} : ∀ {xs : List α}, (∀ x ∈ xs, f x = 0) → sumL f xs = 0
  | [], _ => rfl
  | x :: xs, h => by rw [sumL, h x List.mem_cons_self, sumL_zero fun y hy => h y (List.mem_cons_of_mem _ hy)]
theorem sumL_le {α : Type} {f g : α → Nat} : ∀ {xs : List α}, (∀ x ∈ xs, f x ≤ g x) → sumL f xs ≤ sumL g xs
  | [], _ => Nat.le_refl _
  | x :: xs, h => by
    rw [sumL, sumL]
    exact Nat.add_le_add (h x List.mem_cons_self) (sumL_le fun y hy => h y (List.mem_cons_of_mem _ hy))
theorem sumL_mem {α : Type} {f : α → Nat} : ∀ {xs : List α} {x : α}, x ∈ xs → f x ≤ sumL f xs
  | y :: ys, x, h => by
    rw [sumL]
    rcases List.mem_cons.mp h with rfl | h
    · exact Nat.le_add_right _ _
    · exact Nat.le_trans (sumL_mem h) (Nat.le_add_left _ _)
theorem sumL_swap {α β : Type} (f : α → β → Nat) (ys : List β) : ∀ xs : List α, sumL (fun x => sumL (f x) ys) xs = sumL (fun y => sumL (fun x => f x y) xs) ys
  | [] => (sumL_zero fun _ _ => rfl).symm
  | x :: xs => by
    rw [sumL, sumL_swap f ys xs]
    rw [← sumL_add]
    exact sumL_congr fun _ _ => rfl
theorem sumL_append {α : Type} (f : α → Nat) : ∀ xs ys : List α, sumL f (xs ++ ys) = sumL f xs + sumL f ys
  | [], ys => by rw [List.nil_append, sumL, Nat.zero_add]
  | x :: xs, ys => by
    rw [List.cons_append, sumL, sumL, sumL_append f xs ys]
    omega
theorem sumL_const {α : Type} {f : α → Nat} {b : Nat} : ∀ {xs : List α}, (∀ x ∈ xs, f x ≤ b) → sumL f xs ≤ xs.length * b
  | [], _ => Nat.zero_le _
  | x :: xs, h => by
    rw [sumL, List.length_cons, Nat.succ_mul]
    have h1 := h x List.mem_cons_self
    have h2 := sumL_const fun y hy => h y (List.mem_cons_of_mem _ hy)
    omega
/-! ### counts from the end of the string -/
def sh (W : List (List Nat)) (s cs : List Nat) : List Nat := W.map fun w => if pre w s = true then cs.getD w.length 0 else 0
def cb (W : List (List Nat)) : List Nat → List Nat
  | [] => [1]
  | c :: s => (sh W (c :: s) (0 :: cb W s)).sum :: cb W s
def cnt (W : List (List Nat)) (s : List Nat) : Nat := (cb W s).headD 0
/-- no word is empty -/
def NE (W : List (List Nat)) : Prop := ∀ w ∈ W, w ≠ []
theorem NE.pos {W : List (List Nat)} (h : NE W) {w : List Nat} (m : w ∈ W) : 0 < w.length := List.length_pos_iff.mpr (h w m)
theorem cb_len (W : List (List Nat)) : ∀ s, (cb W s).length = s.length + 1
  | [] => rfl
  | c :: s => by rw [cb, List.length_cons, cb_len W s, List.length_cons]
theorem cb_get (W : List (List Nat)) : ∀ (s : List Nat) (k : Nat), k ≤ s.length → (cb W s)[k]? = some (cnt W (s.drop k))
  | [], 0, _ => rfl
  | c :: s, 0, _ => rfl
  | c :: s, k + 1, h => by
    rw [cb, List.getElem?_cons_succ, List.drop_succ_cons]
    exact cb_get W s k (Nat.le_of_succ_le_succ h)
theorem cnt_nil (W : List (List Nat)) : cnt W [] = 1 := rfl
/-- what the words at the beginning leave -/
def shares (W : List (List Nat)) (s : List Nat) : List Nat := W.map fun w => if pre w s = true then cnt W (s.drop w.length) else 0
theorem sh_any {W : List (List Nat)} (h : NE W) (s : List Nat) (x : Nat) (c : Nat) : sh W (c :: s) (x :: cb W s) = shares W (c :: s) := by
  refine List.map_congr_left fun w hw => ?_
  by_cases hp : pre w (c :: s) = true
  · rw [if_pos hp, if_pos hp]
    have h0 := h.pos hw
    obtain ⟨k, hk⟩ : ∃ k, w.length = k + 1 := ⟨w.length - 1, by omega⟩
    have hle := pre_le hp
    rw [List.length_cons] at hle
    rw [hk, List.getD_cons_succ, List.getD_eq_getElem?_getD, cb_get W s k (by omega), List.drop_succ_cons]
    rfl
  · rw [if_neg hp, if_neg hp]
theorem sh_full {W : List (List Nat)} (h : NE W) {s : List Nat} (hs : s ≠ []) : sh W s (cb W s) = shares W s := by
  cases s with
  | nil => exact absurd rfl hs
  | cons c s =>
    rw [cb]
    exact sh_any h s _ c
theorem cnt_shares {W : List (List Nat)} (h : NE W) {s : List Nat} (hs : s ≠ []) : cnt W s = (shares W s).sum := by
  cases s with
  | nil => exact absurd rfl hs
  | cons c s =>
    rw [← sh_any h s 0 c]
    rfl
theorem cnt_left {W : List (List Nat)} (h : NE W) {s : List Nat} (hs : s ≠ []) : cnt W s = sumL (fun w => if pre w s = true then cnt W (s.drop w.length) else 0) W := by
  rw [cnt_shares h hs]
  exact sumL_map _ _
/-! ### so many words -/
def cN (W : List (List Nat)) : Nat → List Nat → Nat
  | 0, s => if s = [] then 1 else 0
  | n + 1, s => sumL (fun w => if pre w s = true then cN W n (s.drop w.length) else 0) W
def upto (f : Nat → Nat) : Nat → Nat
  | 0 => 0
  | m + 1 => f 0 + upto (fun n => f (n + 1)) m
theorem upto_zero : ∀ (m : Nat), upto (fun _ => 0) m = 0
  | 0 => rfl
  | m + 1 => by rw [upto, upto_zero m]
theorem upto_congr : ∀ {m : Nat} {f g : Nat → Nat}, (∀ n, f n = g n) → upto f m = upto g m
  | 0, _, _, _ => rfl
  | m + 1, f, g, h => by rw [upto, upto, h 0, upto_congr fun n => h (n + 1)]
theorem upto_add : ∀ (m : Nat) (f g : Nat → Nat), upto (fun n => f n + g n) m = upto f m + upto g m
  | 0, _, _ => rfl
  | m + 1, f, g => by
    rw [upto, upto, upto, upto_add m]
    omega
theorem upto_sumL {α : Type} (f : α → Nat → Nat) (m : Nat) : ∀ xs : List α, upto (fun n => sumL (fun x => f x n) xs) m = sumL (fun x => upto (f x) m) xs
  | [] => upto_zero m
  | x :: xs => by
    rw [sumL, ← upto_sumL f m xs, ← upto_add]
    rfl
theorem upto_if {c : Bool} {f : Nat → Nat} {m : Nat} : upto (fun n => if c = true then f n else 0) m = if c = true then upto f m else 0 := by
  cases c with
  | true => rfl
  | false => exact upto_zero m
theorem cnt_upto {W : List (List Nat)} (h : NE W) : ∀ (m : Nat) (s : List Nat), s.length ≤ m → cnt W s = upto (fun n => cN W n s) (m + 1)
  | m, [], _ => by
    rw [upto]
    have e : upto (fun n => cN W (n + 1) []) m = 0 := by
      rw [← upto_zero m]
      refine upto_congr fun n => ?_
      rw [cN]
      refine sumL_zero fun w hw => ?_
      rw [pre_nil (h w hw)]
      rfl
    rw [e]
    rfl
  | 0, c :: s, hs => by
    rw [List.length_cons] at hs
    omega
  | m + 1, c :: s, hs => by
    rw [upto, cN, if_neg (List.cons_ne_nil c s), Nat.zero_add, cnt_left h (List.cons_ne_nil c s)]
    have e : upto (fun n => cN W (n + 1) (c :: s)) (m + 1) = upto (fun n => sumL (fun w => if pre w (c :: s) = true then cN W n ((c :: s).drop w.length) else 0) W) (m + 1) := upto_congr fun n => by rw [cN]
    rw [e, upto_sumL (fun w n => if pre w (c :: s) = true then cN W n ((c :: s).drop w.length) else 0)]
    refine sumL_congr fun w hw => ?_
    rw [upto_if]
    by_cases hp : pre w (c :: s) = true
    · rw [if_pos hp, if_pos hp]
      refine cnt_upto h m _ ?_
      have h0 := h.pos hw
      rw [List.length_drop]
      omega
    · rw [if_neg hp, if_neg hp]
/-- a word at both ends -/
theorem both_ends {w v s : List Nat} : (pre w s = true ∧ suf v (s.drop w.length) = true) ↔ (suf v s = true ∧ pre w (s.take (s.length - v.length)) = true) := by
  unfold pre suf
  rw [decide_eq_true_iff, decide_eq_true_iff, decide_eq_true_iff, decide_eq_true_iff, List.length_drop, List.drop_drop, List.take_take]
  constructor
  · rintro ⟨h1, h2, h3⟩
    have e := congrArg List.length h1
    rw [List.length_take] at e
    refine ⟨⟨by omega, ?_⟩, ?_⟩
    · rw [show s.length - v.length = w.length + (s.length - w.length - v.length) by omega]
      exact h3
    · rw [Nat.min_eq_left (by omega)]
      exact h1
  · rintro ⟨⟨h1, h2⟩, h3⟩
    have e := congrArg List.length h3
    rw [List.length_take] at e
    have e1 : min w.length (s.length - v.length) = w.length := by omega
    rw [e1] at h3
    refine ⟨h3, by omega, ?_⟩
    rw [show w.length + (s.length - w.length - v.length) = s.length - v.length by omega]
    exact h2
theorem middle {w v s : List Nat} : (s.drop w.length).take ((s.drop w.length).length - v.length) = (s.take (s.length - v.length)).drop w.length := by
  rw [List.length_drop, List.drop_take]
  congr 1
  omega
theorem cN_right {W : List (List Nat)} : ∀ (n : Nat) (s : List Nat), cN W (n + 1) s = sumL (fun v => if suf v s = true then cN W n (s.take (s.length - v.length)) else 0) W
  | 0, s => by
    rw [cN]
    refine sumL_congr fun w _ => ?_
    rw [cN, cN]
    have key : (pre w s = true ∧ s.drop w.length = []) ↔ (suf w s = true ∧ s.take (s.length - w.length) = []) := by
      unfold pre suf
      rw [decide_eq_true_iff, decide_eq_true_iff]
      constructor
      · rintro ⟨h1, h2⟩
        have e2 := congrArg List.length h2
        rw [List.length_drop, List.length_nil] at e2
        have e1 := congrArg List.length h1
        rw [List.length_take] at e1
        have : s.length - w.length = 0 := by omega
        rw [this]
        refine ⟨⟨by omega, ?_⟩, rfl⟩
        rw [List.drop_zero]
        rw [List.take_of_length_le (by omega)] at h1
        exact h1
      · rintro ⟨⟨h1, h2⟩, h3⟩
        have e3 := congrArg List.length h3
        rw [List.length_take, List.length_nil] at e3
        have : s.length - w.length = 0 := by omega
        rw [this, List.drop_zero] at h2
        subst h2
        rw [List.take_length, List.drop_length]
        exact ⟨rfl, rfl⟩
    by_cases a : pre w s = true
    · rw [if_pos a]
      by_cases b : s.drop w.length = []
      · obtain ⟨c, d⟩ := key.mp ⟨a, b⟩
        rw [if_pos b, if_pos c, if_pos d]
      · rw [if_neg b]
        by_cases c : suf w s = true
        · rw [if_pos c, if_neg fun d => b (key.mpr ⟨c, d⟩).2]
        · rw [if_neg c]
    · rw [if_neg a]
      by_cases c : suf w s = true
      · rw [if_pos c, if_neg fun d => a (key.mpr ⟨c, d⟩).1]
      · rw [if_neg c]
  | n + 1, s => by
    rw [cN]
    have e1 : sumL (fun w => if pre w s = true then cN W (n + 1) (s.drop w.length) else 0) W = sumL (fun w => sumL (fun v => if pre w s = true ∧ suf v (s.drop w.length) = true then cN W n ((s.take (s.length - v.length)).drop w.length) else 0) W) W := by
      refine sumL_congr fun w _ => ?_
      by_cases a : pre w s = true
      · rw [if_pos a, cN_right n]
        refine sumL_congr fun v _ => ?_
        by_cases b : suf v (s.drop w.length) = true
        · rw [if_pos b, if_pos ⟨a, b⟩, middle]
        · rw [if_neg b, if_neg fun z => b z.2]
      · rw [if_neg a]
        exact (sumL_zero fun v _ => if_neg fun z => a z.1).symm
    rw [e1, sumL_swap]
    refine sumL_congr fun v _ => ?_
    by_cases b : suf v s = true
    · rw [if_pos b, cN]
      refine sumL_congr fun w _ => ?_
      by_cases a : pre w (s.take (s.length - v.length)) = true
      · rw [if_pos (both_ends.mpr ⟨b, a⟩), if_pos a]
      · rw [if_neg fun z => a (both_ends.mp z).2, if_neg a]
    · rw [if_neg b]
      exact sumL_zero fun w _ => if_neg fun z => b (both_ends.mp z).1
theorem cnt_right {W : List (List Nat)} (h : NE W) {s : List Nat} (hs : s ≠ []) : cnt W s = sumL (fun v => if suf v s = true then cnt W (s.take (s.length - v.length)) else 0) W := by
  have hl : 0 < s.length := List.length_pos_iff.mpr hs
  rw [cnt_upto h s.length s (Nat.le_refl _), upto, cN, if_neg hs, Nat.zero_add]
  have e : upto (fun n => cN W (n + 1) s) s.length = upto (fun n => sumL (fun v => if suf v s = true then cN W n (s.take (s.length - v.length)) else 0) W) s.length := upto_congr fun n => cN_right n s
  rw [e, upto_sumL (fun v n => if suf v s = true then cN W n (s.take (s.length - v.length)) else 0)]
  refine sumL_congr fun v hv => ?_
  rw [upto_if]
  by_cases b : suf v s = true
  · rw [if_pos b, if_pos b, show s.length = (s.length - 1) + 1 by omega]
    have h0 := h.pos hv
    rw [show (s.length - 1 + 1 - v.length) = s.length - v.length by omega]
    exact (cnt_upto h (s.length - 1) _ (by rw [List.length_take]; omega)).symm
  · rw [if_neg b, if_neg b]
/-! ### backwards, with a word more, bounds -/
theorem pre_rev {w s : List Nat} : pre w.reverse s.reverse = suf w s := by
  unfold pre suf
  by_cases hl : w.length ≤ s.length
  · have e : (s.reverse.take w.reverse.length = w.reverse) ↔ (w.length ≤ s.length ∧ s.drop (s.length - w.length) = w) := by
      rw [List.length_reverse, List.take_reverse]
      constructor
      · intro h
        exact ⟨hl, List.reverse_inj.mp h⟩
      · rintro ⟨_, h⟩
        rw [h]
    exact decide_eq_decide.mpr e
  · have a : ¬ (s.reverse.take w.reverse.length = w.reverse) := fun z => by
      have e := congrArg List.length z
      rw [List.length_take, List.length_reverse, List.length_reverse] at e
      omega
    rw [decide_eq_false a, decide_eq_false (fun z => hl z.1)]
theorem NE.rev {W : List (List Nat)} (h : NE W) : NE (W.map List.reverse) := fun w hw => by
  obtain ⟨v, hv, rfl⟩ := List.mem_map.mp hw
  exact fun e => h v hv (List.reverse_eq_nil_iff.mp e)
theorem sumL_mapped {α β : Type} (g : α → β) (f : β → Nat) : ∀ xs : List α, sumL f (xs.map g) = sumL (fun x => f (g x)) xs
  | [] => rfl
  | x :: xs => by rw [List.map_cons, sumL, sumL, sumL_mapped g f xs]
theorem cnt_rev {W : List (List Nat)} (h : NE W) : ∀ (n : Nat) (s : List Nat), s.length ≤ n → cnt (W.map List.reverse) s.reverse = cnt W s
  | _, [], _ => rfl
  | 0, c :: s, hs => by
    rw [List.length_cons] at hs
    omega
  | n + 1, c :: s, hs => by
    have ne : (c :: s) ≠ [] := List.cons_ne_nil c s
    have ne2 : (c :: s).reverse ≠ [] := fun e => ne (List.reverse_eq_nil_iff.mp e)
    rw [cnt_left h.rev ne2, cnt_right h ne, sumL_mapped]
    refine sumL_congr fun w hw => ?_
    rw [pre_rev]
    by_cases b : suf w (c :: s) = true
    · rw [if_pos b, if_pos b, List.length_reverse, List.drop_reverse]
      have h0 := h.pos hw
      exact cnt_rev h n _ (by rw [List.length_take]; omega)
    · rw [if_neg b, if_neg b]
theorem cnt_more {W : List (List Nat)} {v : List Nat} (h : NE W) (hv : v ≠ []) : ∀ (n : Nat) (s : List Nat), s.length ≤ n → cnt W s ≤ cnt (W ++ [v]) s
  | _, [], _ => Nat.le_refl _
  | 0, c :: s, hs => by
    rw [List.length_cons] at hs
    omega
  | n + 1, c :: s, hs => by
    have ne : (c :: s) ≠ [] := List.cons_ne_nil c s
    have h2 : NE (W ++ [v]) := fun w hw => by
      rcases List.mem_append.mp hw with hw | hw
      · exact h w hw
      · rw [List.mem_singleton.mp hw]
        exact hv
    rw [cnt_left h ne, cnt_left h2 ne, sumL_append]
    refine Nat.le_trans (sumL_le fun w hw => ?_) (Nat.le_add_right _ _)
    by_cases b : pre w (c :: s) = true
    · rw [if_pos b, if_pos b]
      have h0 := h.pos hw
      exact cnt_more h hv n _ (by rw [List.length_drop]; omega)
    · rw [if_neg b, if_neg b]
      exact Nat.le_refl _
theorem cnt_bound {W : List (List Nat)} (h : NE W) (h6 : W.length ≤ 6) : ∀ (n : Nat) (s : List Nat), s.length ≤ n → cnt W s ≤ 6 ^ n
  | n, [], _ => Nat.one_le_pow n 6 (by decide)
  | 0, c :: s, hs => by
    rw [List.length_cons] at hs
    omega
  | n + 1, c :: s, hs => by
    rw [cnt_left h (List.cons_ne_nil c s)]
    refine Nat.le_trans (sumL_const (b := 6 ^ n) fun w hw => ?_) ?_
    · by_cases b : pre w (c :: s) = true
      · rw [if_pos b]
        have h0 := h.pos hw
        exact cnt_bound h h6 n _ (by rw [List.length_drop]; omega)
      · rw [if_neg b]
        exact Nat.zero_le _
    · rw [Nat.pow_succ, Nat.mul_comm (6 ^ n)]
      exact Nat.mul_le_mul_right _ h6
theorem cnt_snoc {W : List (List Nat)} (h : NE W) {s w : List Nat} (hw : w ∈ W) : cnt W s ≤ cnt W (s ++ w) := by
  have ne : s ++ w ≠ [] := fun e => h w hw (List.append_eq_nil_iff.mp e).2
  rw [cnt_right h ne]
  refine Nat.le_trans (Nat.le_of_eq ?_) (sumL_mem hw)
  have hsuf : suf w (s ++ w) = true := by
    unfold suf
    rw [List.length_append, Nat.add_sub_cancel, List.drop_left]
    exact decide_eq_true ⟨Nat.le_add_left _ _, rfl⟩
  show cnt W s = if suf w (s ++ w) = true then _ else 0
  rw [if_pos hsuf, List.length_append, Nat.add_sub_cancel, List.take_left]
/-! ### parses by their index -/
def pick : List Nat → Nat → Nat × Nat
  | [], i => (0, i)
  | m :: ms, i => if i < m then (0, i) else ((pick ms (i - m)).1 + 1, (pick ms (i - m)).2)
theorem pick_ok : ∀ (ms : List Nat) (i : Nat), i < ms.sum → ∃ m, ms[(pick ms i).1]? = some m ∧ (pick ms i).2 < m ∧ (ms.take (pick ms i).1).sum + (pick ms i).2 = i
  | [], i, h => absurd h (Nat.not_lt_zero _)
  | m :: ms, i, h => by
    rw [List.sum_cons] at h
    by_cases hi : i < m
    · refine ⟨m, ?_, ?_, ?_⟩ <;> rw [pick, if_pos hi]
      · rfl
      · exact hi
      · show 0 + i = i
        omega
    · obtain ⟨n, h1, h2, h3⟩ := pick_ok ms (i - m) (by omega)
      refine ⟨n, ?_, ?_, ?_⟩ <;> rw [pick, if_neg hi]
      · exact h1
      · exact h2
      · show ((m :: ms).take ((pick ms (i - m)).1 + 1)).sum + (pick ms (i - m)).2 = i
        rw [List.take_succ_cons, List.sum_cons]
        omega
def nth (W : List (List Nat)) : Nat → List Nat → Nat → List Nat
  | 0, _, _ => []
  | _ + 1, [], _ => []
  | n + 1, c :: s, i => (pick (shares W (c :: s)) i).1 :: nth W n ((c :: s).drop (W.getD (pick (shares W (c :: s)) i).1 []).length) (pick (shares W (c :: s)) i).2
def join (W : List (List Nat)) : List Nat → List Nat
  | [] => []
  | j :: ps => W.getD j [] ++ join W ps
def idx (W : List (List Nat)) : List Nat → List Nat → Nat
  | _, [] => 0
  | s, j :: ps => ((shares W s).take j).sum + idx W (s.drop (W.getD j []).length) ps
/-- the word that was picked begins the string -/
theorem pick_word {W : List (List Nat)} (h : NE W) {s : List Nat} (hs : s ≠ []) {i : Nat} (hi : i < cnt W s) :
    (pick (shares W s) i).1 < W.length ∧ pre (W.getD (pick (shares W s) i).1 []) s = true ∧ (pick (shares W s) i).2 < cnt W (s.drop (W.getD (pick (shares W s) i).1 []).length) ∧ 0 < (W.getD (pick (shares W s) i).1 []).length ∧
      ((shares W s).take (pick (shares W s) i).1).sum + (pick (shares W s) i).2 = i := by
  rw [cnt_shares h hs] at hi
  obtain ⟨m, h1, h2, h3⟩ := pick_ok _ _ hi
  generalize pick (shares W s) i = q at h1 h2 h3
  unfold shares at h1
  rw [List.getElem?_map] at h1
  cases hw : W[q.1]? with
  | none =>
    rw [hw] at h1
    cases h1
  | some w =>
    rw [hw] at h1
    have e1 : (if pre w s = true then cnt W (s.drop w.length) else 0) = m := Option.some.inj h1
    have hlt := (List.getElem?_eq_some_iff.mp hw).1
    have hg : W.getD q.1 [] = w := by
      rw [List.getD_eq_getElem?_getD, hw]
      rfl
    have hm : w ∈ W := List.mem_of_getElem? hw
    rw [hg]
    by_cases hp : pre w s = true
    · rw [if_pos hp] at e1
      exact ⟨hlt, hp, by rw [e1]; exact h2, h.pos hm, h3⟩
    · rw [if_neg hp] at e1
      omega
theorem pre_split {w s : List Nat} (h : pre w s = true) : w ++ s.drop w.length = s := by
  have e := of_decide_eq_true h
  conv => rhs; rw [← List.take_append_drop w.length s, e]
theorem nth_ok {W : List (List Nat)} (h : NE W) : ∀ (n : Nat) (s : List Nat) (i : Nat), s.length ≤ n → i < cnt W s → (∀ j ∈ nth W n s i, j < W.length) ∧ join W (nth W n s i) = s ∧ idx W s (nth W n s i) = i
  | 0, [], i, _, hi => by
    have : i < 1 := hi
    refine ⟨fun j hj => by simp [nth] at hj, rfl, ?_⟩
    show 0 = i
    omega
  | n + 1, [], i, _, hi => by
    have : i < 1 := hi
    refine ⟨fun j hj => by simp [nth] at hj, rfl, ?_⟩
    show 0 = i
    omega
  | 0, c :: s, i, hs, _ => by
    rw [List.length_cons] at hs
    omega
  | n + 1, c :: s, i, hs, hi => by
    obtain ⟨h1, h2, h3, h4, h5⟩ := pick_word h (List.cons_ne_nil c s) hi
    obtain ⟨i1, i2, i3⟩ := nth_ok h n ((c :: s).drop (W.getD (pick (shares W (c :: s)) i).1 []).length) (pick (shares W (c :: s)) i).2 (by rw [List.length_drop]; omega) h3
    rw [nth]
    refine ⟨fun j hj => ?_, ?_, ?_⟩
    · rcases List.mem_cons.mp hj with rfl | hj
      · exact h1
      · exact i1 j hj
    · rw [join, i2]
      exact pre_split h2
    · rw [idx, i3]
      exact h5
theorem nth_fuel {W : List (List Nat)} (h : NE W) : ∀ (n m : Nat) (s : List Nat) (i : Nat), s.length ≤ n → s.length ≤ m → i < cnt W s → nth W n s i = nth W m s i
  | 0, 0, _, _, _, _, _ => rfl
  | 0, m + 1, [], _, _, _, _ => rfl
  | n + 1, 0, [], _, _, _, _ => rfl
  | n + 1, m + 1, [], _, _, _, _ => rfl
  | 0, m + 1, c :: s, _, hs, _, _ => by
    rw [List.length_cons] at hs
    omega
  | n + 1, 0, c :: s, _, _, hs, _ => by
    rw [List.length_cons] at hs
    omega
  | n + 1, m + 1, c :: s, i, h1, h2, hi => by
    obtain ⟨_, _, h3, h4, _⟩ := pick_word h (List.cons_ne_nil c s) hi
    rw [nth, nth, nth_fuel h n m _ _ (by rw [List.length_drop]; omega) (by rw [List.length_drop]; omega) h3]
theorem cb_drop (W : List (List Nat)) : ∀ (s : List Nat) (k : Nat), k ≤ s.length → (cb W s).drop k = cb W (s.drop k)
  | s, 0, _ => rfl
  | [], k + 1, h => absurd h (by simp)
  | c :: s, k + 1, h => by
    rw [cb, List.drop_succ_cons, List.drop_succ_cons]
    exact cb_drop W s k (Nat.le_of_succ_le_succ h)
/-- as tuples: what differs first decides -/
def lex : List Nat → List Nat → Bool
  | [], [] => false
  | [], _ :: _ => true
  | _ :: _, [] => false
  | x :: xs, y :: ys => if x = y then lex xs ys else decide (x < y)
theorem pick_lt : ∀ (ms : List Nat) (i j : Nat), i < j → j < ms.sum → (pick ms i).1 < (pick ms j).1 ∨ ((pick ms i).1 = (pick ms j).1 ∧ (pick ms i).2 < (pick ms j).2)
  | [], i, j, _, h => absurd h (Nat.not_lt_zero _)
  | m :: ms, i, j, hij, h => by
    rw [List.sum_cons] at h
    by_cases hj : j < m
    · rw [pick, pick, if_pos hj, if_pos (by omega : i < m)]
      exact .inr ⟨rfl, hij⟩
    · by_cases hi : i < m
      · rw [pick, pick, if_pos hi, if_neg hj]
        exact .inl (Nat.succ_pos _)
      · rw [pick, pick, if_neg hi, if_neg hj]
        rcases pick_lt ms (i - m) (j - m) (by omega) (by omega) with q | ⟨q, r⟩
        · exact .inl (Nat.succ_lt_succ q)
        · exact .inr ⟨congrArg Nat.succ q, r⟩
theorem nth_lt {W : List (List Nat)} (h : NE W) : ∀ (n : Nat) (s : List Nat) (i j : Nat), s.length ≤ n → i < j → j < cnt W s → lex (nth W n s i) (nth W n s j) = true
  | 0, [], i, j, _, hij, hj => by
    have : j < 1 := hj
    omega
  | n + 1, [], i, j, _, hij, hj => by
    have : j < 1 := hj
    omega
  | 0, c :: s, i, j, hs, _, _ => by
    rw [List.length_cons] at hs
    omega
  | n + 1, c :: s, i, j, hs, hij, hj => by
    obtain ⟨_, _, h3, h4, _⟩ := pick_word h (List.cons_ne_nil c s) hj
    have hsum : j < (shares W (c :: s)).sum := by
      rw [← cnt_shares h (List.cons_ne_nil c s)]
      exact hj
    rw [nth, nth, lex]
    rcases pick_lt _ i j hij hsum with q | ⟨q, r⟩
    · rw [if_neg (by omega)]
      exact decide_eq_true q
    · rw [if_pos q, q]
      exact nth_lt h n _ _ _ (by rw [List.length_drop]; omega) r h3
end SyM
/-! Syncedwords: texts and tuples from their end. -/
namespace L2
open PySem PySem.Spec PyProof.Rows
theorem fm_congr {α β : Type} {f g : α → Option β} : ∀ {l : List α}, (∀ a ∈ l, f a = g a) → l.filterMap f = l.filterMap g
  | [], _ => rfl
  | a :: l, h => by rw [List.filterMap_cons, List.filterMap_cons, h a List.mem_cons_self, fm_congr fun b hb => h b (List.mem_cons_of_mem _ hb)]
theorem rev_str (z : Str) (t u : Tok) : sliceMade z t none none (some (-1, u)) = Made.str ⟨(TL.tl z).reverse.toArray⟩ := by
  unfold sliceMade
  have h1 : (((some ((-1 : Int), u)).map (·.1)).getD 1 == 1 && (slicePicked z none none (some (-1, u))).length == z.length) = false := rfl
  rw [h1, if_neg Bool.false_ne_true]
  unfold slicePicked Builtin.Str.strSliceIndices
  show Made.str ⟨((sliceRange (((z.cps.size : Nat) : Int) - 1) (-1) (-1)).filterMap (z.cps[·]?)).toArray⟩ = _
  rw [PySem.W.krv_sliceRange, PySem.W.krv_range, List.filterMap_reverse, PySem.W.krv_all (α := Nat) z.cps]
section
variable {X : Cx}
/-- z[::-1], z a text -/
def tRevS (te : TE) : TE := fun σ H Q => te σ H fun x H1 => ∃ z : Str, x = .str z ∧ z.length ≤ sizeLine ∧ Q (.str ⟨(TL.tl z).reverse.toArray⟩) H1
theorem pe_rev_str {e : Expr} {te : TE} {k : Nat} {p1 p2 p3 pos : Pos} (he : PE X e te) : PE X (.Subscript e (.Slice none none (some (.UnaryOp .USub (.Constant (.int 1) k p1) p2)) p3) pos) (tRevS te) := by
  refine ⟨fun pins s σ H Q I h => ?_⟩
  refine Subscript_ (thn (he.run pins s σ H _ I h) fun v s1 ⟨x, H1, I1, r1, q1⟩ => ?_)
  obtain ⟨z, ex, hz, q⟩ := q1
  subst ex
  obtain ⟨tz, rfl⟩ := r1
  have hst : PO X (some (.UnaryOp .USub (.Constant (.int 1) k p1) p2)) (tPart (tUn (rU fun i => .int (-i)) (tC (.int 1)))) := po_some (pe_un un_neg pe_int)
  refine wpAny_Slice (thn (po_none.run pins s1 σ H1 (fun o H2 => o = none ∧ H2 = H1) I1 ⟨rfl, rfl⟩) fun vl s2 ⟨l, H2, I2, pl, el, e2⟩ => ?_)
  subst el e2
  refine thn (po_none.run pins s2 σ H2 (fun o H3 => o = none ∧ H3 = H2) I2 ⟨rfl, rfl⟩) fun vu s3 ⟨u, H3, I3, pu, eu, e3⟩ => ?_
  subst eu e3
  refine thn (hst.run pins s3 σ H3 (fun o H4 => o = some (-1) ∧ H4 = H3) I3 ⟨1, rfl, -1, rfl, rfl, rfl⟩) fun vs s4 ⟨o, H4, I4, ps, eo, e4⟩ => ?_
  subst eo e4
  cases pl
  cases pu
  cases ps with
  | int _ t =>
    have I5 : Inv X pins σ H4 { s4 with heap := s4.heap.push { cls := .type "slice", data := .fields #[.none, .none, .int (-1) t] } } := I4.kept (t' := s4.toks) fun b ob q => Heap.get?_push_of_some _ q
    show wpAny (model X.prog X.w) X.A (subscriptTail e (.Slice none none (some (.UnaryOp .USub (.Constant (.int 1) k p1) p2)) p3) (.str z tz) (.ref s4.heap.objs.size)) (EP X pins σ Q) X.xe { s4 with heap := s4.heap.push { cls := .type "slice", data := .fields #[.none, .none, .int (-1) t] } }
    refine tail_any (ops := [.str z tz, .ref s4.heap.objs.size]) (typeIs_str _ _ _) (PySem.F.slot_str_getitem.lookup) ?_ (by with_unfolding_all rfl)
    refine wpAny_getItem_str_slice (l := none) (u := none) (st := some (-1, t)) ⟨_, Heap.get?_push_size _ rfl, rfl, rfl⟩ rfl ?_
    rw [rev_str]
    exact ⟨by show (TL.tl z).reverse.toArray.size ≤ sizeLine; rw [List.size_toArray, List.length_reverse, ← TL.len_tl]; exact hz, .str _, H4, I5.tok _, ⟨_, rfl⟩, q⟩
theorem rev_pick (xs : Array Value) : ((List.range xs.size).filterMap fun (m : Nat) => xs[(((xs.size : Nat) : Int) - 1 + (m : Int) * (-1)).toNat]?).toArray = xs.toList.reverse.toArray := by
  have e : ((List.range xs.size).filterMap fun (m : Nat) => xs[(((xs.size : Nat) : Int) - 1 + (m : Int) * (-1)).toNat]?) = ((List.range xs.size).map fun k => xs.size - 1 - k).filterMap (xs[·]?) := by
    rw [List.filterMap_map]
    refine fm_congr fun m hm => ?_
    have := List.mem_range.mp hm
    show _ = xs[xs.size - 1 - m]?
    congr 1
    omega
  rw [e, PySem.W.krv_range, List.filterMap_reverse, PySem.W.krv_all]
/-- t[::-1], t a tuple: a new one -/
theorem getItem_tuple_rev {prog : Program} {w : World} {A : Around} {E : Value → Shared → Prop} {s : Shared} {t sl : Addr} {items : Array Value} {vl vu vs : Value} {Q : Value → Shared → Prop} (ht : IsTup s.heap t items) (hs : s.heap.IsSliceOf sl vl vu vs) (pl : IsPart vl none) (pu : IsPart vu none) (ps : IsPart vs (some (-1)))
    (h : Q (.ref s.heap.objs.size) { s with heap := s.heap.push { cls := .type "tuple", data := .seq items.toList.reverse.toArray } })
    (hsz : items.size ≤ sizeLine) : wpAny (model prog w) A (getItem (.ref t) (.ref sl)) Q E s := by
  have htake : sizeOk (.seq items.toList.reverse.toArray) := by
    show items.toList.reverse.toArray.size ≤ sizeLine
    rw [List.size_toArray, List.length_reverse, Array.length_toList]
    exact hsz
  obtain ⟨os, hos, hcs, hds⟩ := id hs
  have hTs : s.TypeIs (.ref sl) "slice" := ⟨os, hos, hcs⟩
  unfold getItem
  try with_reducible refine wpAny_holding ?_
  first | refine wpAny_bind (wpAny_pure ?_) | skip
  refine wpAny_bind (wpAny_sequenceKey ht.typeIs (by decide) ?_)
  refine wpAny_bind (wpAny_callSpecial?_slot (name := Str.ofString "__getitem__") ht.typeIs PyProof.Rows.slot_tuple_getitem
    (wpAny_call_entry PyProof.Rows.slot_tuple_getitem ht.typeIs entry_tuple_getitem ?_ (args_tuple_getitem _ _)))
  show wpAny _ _ (Builtin.Tuple.tupleItemsOf (.ref t) >>= _) _ _ s
  refine wpAny_bind (tupleItemsOf_ ht ?_)
  refine wpAny_bind (wpAny_typeOf hTs ?_)
  rw [if_pos (by decide)]
  have app : ∀ {R : Int × Int × Nat → Shared → Prop} {E : Value → Shared → Prop} {A : Around}, R ((((items.size : Nat) : Int) - 1), -1, items.size) s → wpAny (model prog w) A (Builtin.Slice.sliceApplied (.ref sl) (pure ((items.size : Nat) : Int))) R E s := fun {R E A} h => by
    unfold Builtin.Slice.sliceApplied Builtin.Slice.sliceFields
    refine wpAny_bind (wpAny_bind (wpAny_field hos hds (x := vl) rfl (wpAny_bind (wpAny_field hos hds (x := vu) rfl (wpAny_bind (wpAny_field hos hds (x := vs) rfl (wpAny_pure ?_)))))))
    refine wpAny_bind (HT.slicePart_ ps ?_)
    show wpAny _ _ (if ((-1 : Int) == 0) = true then _ else _) _ _ s
    rw [if_neg (by decide)]
    refine wpAny_bind (HT.slicePart_ pl (wpAny_bind (HT.slicePart_ pu (wpAny_bind (wpAny_pure ?_)))))
    have e1 : Builtin.Slice.sliceAdjust none none (-1) ((items.size : Nat) : Int) = (((items.size : Nat) : Int) - 1, -1) := rfl
    have e2 : Builtin.Slice.slicePlaces (((items.size : Nat) : Int) - 1) (-1) (-1) = items.size := by
      unfold Builtin.Slice.slicePlaces
      rw [if_neg (by decide)]
      by_cases hgt : ((items.size : Nat) : Int) - 1 > -1
      · rw [if_pos hgt, show (- -1 : Int) = 1 by decide, Int.ediv_one]
        omega
      · rw [if_neg hgt]
        omega
    show wpAny _ _ (match Builtin.Slice.sliceAdjust none none (-1) ((items.size : Nat) : Int) with | (lo, hi) => pure (lo, (-1 : Int), Builtin.Slice.slicePlaces lo hi (-1))) _ _ s
    rw [e1]
    show wpAny _ _ (pure ((((items.size : Nat) : Int) - 1), (-1 : Int), Builtin.Slice.slicePlaces (((items.size : Nat) : Int) - 1) (-1) (-1))) _ _ s
    rw [e2]
    exact wpAny_pure h
  refine wpAny_bind (app ?_)
  have hno : ¬ (((((items.size : Nat) : Int) - 1) == 0 && (-1 : Int) == 1 && items.size == items.size) = true) := by
    intro q
    rw [Bool.and_eq_true, Bool.and_eq_true] at q
    exact absurd q.1.2 (by decide)
  show wpAny _ _ (if ((((items.size : Nat) : Int) - 1) == 0 && (-1 : Int) == 1 && items.size == items.size) = true then _ else _) _ _ s
  rw [if_neg hno, rev_pick]
  first
    | exact wpAny_bind (m := Builtin.Tuple.tupleExact _) (wpAny_newObj_type (wpAny_pure ⟨_, rfl, wpAny_pure h⟩) htake)
    | exact wpAny_bind (m := Builtin.Tuple.tupleExact _) (wpAny_newObj_type (wpAny_bind (wpAny_pure (wpAny_pure ⟨_, rfl, wpAny_pure h⟩))) htake)
    | exact wpAny_bind (wpAny_bind (m := Builtin.Tuple.tupleExact _) (wpAny_newObj_type (wpAny_pure (wpAny_pure ⟨_, rfl, wpAny_pure h⟩)) htake))
def tRevT (K : PySem.W.Frag) (te : TE) : TE := fun σ H Q => te σ H fun x H1 => ∃ a xs, x = .ref a ∧ SqT K H1 a xs ∧ ∀ p, H1 p = none → Q (.ref p) (upd H1 p (.tup xs.reverse))
theorem pe_rev_tup {e : Expr} {te : TE} {k : Nat} {p1 p2 p3 pos : Pos} (he : PE X e te) : PE X (.Subscript e (.Slice none none (some (.UnaryOp .USub (.Constant (.int 1) k p1) p2)) p3) pos) (tRevT X.K te) := by
  refine ⟨fun pins s σ H Q I h => ?_⟩
  refine Subscript_ (thn (he.run pins s σ H _ I h) fun v s1 ⟨x, H1, I1, r1, q1⟩ => ?_)
  obtain ⟨a, xs, ex, hx, q⟩ := q1
  subst ex
  cases r1
  have hst : PO X (some (.UnaryOp .USub (.Constant (.int 1) k p1) p2)) (tPart (tUn (rU fun i => .int (-i)) (tC (.int 1)))) := po_some (pe_un un_neg pe_int)
  refine wpAny_Slice (thn (po_none.run pins s1 σ H1 (fun o H2 => o = none ∧ H2 = H1) I1 ⟨rfl, rfl⟩) fun vl s2 ⟨l, H2, I2, pl, el, e2⟩ => ?_)
  subst el e2
  refine thn (po_none.run pins s2 σ H2 (fun o H3 => o = none ∧ H3 = H2) I2 ⟨rfl, rfl⟩) fun vu s3 ⟨u, H3, I3, pu, eu, e3⟩ => ?_
  subst eu e3
  refine thn (hst.run pins s3 σ H3 (fun o H4 => o = some (-1) ∧ H4 = H3) I3 ⟨1, rfl, -1, rfl, rfl, rfl⟩) fun vs s4 ⟨o, H4, I4, ps, eo, e4⟩ => ?_
  subst eo e4
  have I5 : Inv X pins σ H4 { s4 with heap := s4.heap.push { cls := .type "slice", data := .fields #[vl, vu, vs] } } := I4.kept (t' := s4.toks) fun b ob q => Heap.get?_push_of_some _ q
  obtain ⟨its, r, ht, hz⟩ := I5.tuple hx
  have hlen := r.length
  show wpAny (model X.prog X.w) X.A (subscriptTail e (.Slice none none (some (.UnaryOp .USub (.Constant (.int 1) k p1) p2)) p3) (.ref a) (.ref s4.heap.objs.size)) (EP X pins σ Q) X.xe { s4 with heap := s4.heap.push { cls := .type "slice", data := .fields #[vl, vu, vs] } }
  refine tail_any (ops := [.ref a, .ref s4.heap.objs.size]) ht.typeIs (PyProof.Rows.slot_tuple_getitem.lookup) ?_ (by with_unfolding_all rfl)
  refine getItem_tuple_rev ht (Heap.IsSliceOf.new _ vl vu vs) pl pu ps ?_ (by rw [List.size_toArray]; omega)
  refine ⟨.ref _, _, I5.laid (t' := s4.toks) (o := .tup xs.reverse) (fun b ob q => Heap.get?_push_of_some _ q) (Nat.le_refl _) ?_, rfl, q _ (I5.hok.fresh (Nat.le_refl _))⟩
  exact ⟨by rw [List.length_reverse]; exact hz, _, r.reverse, ⟨_, Heap.get?_push_size _ rfl, rfl, 0, rfl⟩⟩
end
end L2
/-! Syncedwords: all parses of a string, as they come by their index; the places at which parses have a boundary. Plain lists. -/
namespace SyM
def IsP (W : List (List Nat)) (s p : List Nat) : Prop := (∀ j ∈ p, j < W.length) ∧ join W p = s
theorem getD_at {W : List (List Nat)} {j : Nat} (h : j < W.length) : W.getD j [] = W[j] := by
  rw [List.getD_eq_getElem?_getD, List.getElem?_eq_getElem h]
  rfl
theorem getD_ne {W : List (List Nat)} (h : NE W) {j : Nat} (hj : j < W.length) : W.getD j [] ≠ [] := by
  rw [getD_at hj]
  exact h _ (List.getElem_mem hj)
theorem pre_app (w s : List Nat) : pre w (w ++ s) = true := by
  unfold pre
  rw [List.take_left]
  exact decide_eq_true rfl
theorem pick_sum : ∀ (ms : List Nat) (j i m : Nat), ms[j]? = some m → i < m → pick ms ((ms.take j).sum + i) = (j, i) ∧ (ms.take j).sum + i < ms.sum
  | [], j, i, m, h, _ => by simp at h
  | x :: ms, 0, i, m, h, hi => by
    cases Option.some.inj h
    rw [List.take_zero, List.sum_nil, Nat.zero_add, pick, if_pos hi, List.sum_cons]
    exact ⟨rfl, by omega⟩
  | x :: ms, j + 1, i, m, h, hi => by
    obtain ⟨h1, h2⟩ := pick_sum ms j i m h hi
    rw [List.take_succ_cons, List.sum_cons, List.sum_cons, pick, if_neg (by omega), show x + (ms.take j).sum + i - x = (ms.take j).sum + i by omega, h1]
    exact ⟨rfl, by omega⟩
theorem idx_ok {W : List (List Nat)} (h : NE W) : ∀ (n : Nat) (p s : List Nat), s.length ≤ n → IsP W s p → idx W s p < cnt W s ∧ nth W n s (idx W s p) = p
  | n, [], s, hs, ⟨_, e⟩ => by
    subst e
    refine ⟨Nat.one_pos, ?_⟩
    cases n <;> rfl
  | n, j :: p, s, hs, ⟨hj, e⟩ => by
    have hj0 := hj j List.mem_cons_self
    have hne := getD_ne h hj0
    rw [join] at e
    have hsn : s ≠ [] := fun z => by
      rw [z] at e
      exact hne (List.append_eq_nil_iff.mp e).1
    have hpre : pre (W.getD j []) s = true := by
      rw [← e]
      exact pre_app _ _
    have hdrop : s.drop (W.getD j []).length = join W p := by rw [← e, List.drop_left]
    have hlen : s.length = (W.getD j []).length + (join W p).length := by rw [← e, List.length_append]
    have h0 := List.length_pos_iff.mpr hne
    have hsh : (shares W s)[j]? = some (cnt W (join W p)) := by
      unfold shares
      rw [List.getElem?_map, List.getElem?_eq_getElem hj0]
      rw [getD_at hj0] at hpre hdrop
      show some (if pre W[j] s = true then _ else 0) = _
      rw [if_pos hpre, hdrop]
    cases n with
    | zero => omega
    | succ n =>
      obtain ⟨i1, i2⟩ := idx_ok h n p (join W p) (by omega) ⟨fun k hk => hj k (List.mem_cons_of_mem _ hk), rfl⟩
      obtain ⟨p1, p2⟩ := pick_sum _ j (idx W (join W p) p) _ hsh i1
      rw [idx, hdrop]
      refine ⟨by rw [cnt_shares h hsn]; exact p2, ?_⟩
      cases s with
      | nil => exact absurd rfl hsn
      | cons c s =>
        rw [nth, p1]
        show j :: nth W n ((c :: s).drop (W.getD j []).length) _ = _
        rw [hdrop, i2]
/-- all parses by their index -/
def par (W : List (List Nat)) (n : Nat) (s : List Nat) : List (List Nat) := (List.range (cnt W s)).map (nth W n s)
theorem par_len (W : List (List Nat)) (n : Nat) (s : List Nat) : (par W n s).length = cnt W s := by
  unfold par
  rw [List.length_map, List.length_range]
theorem par_mem {W : List (List Nat)} (h : NE W) {n : Nat} {s : List Nat} (hs : s.length ≤ n) {p : List Nat} : p ∈ par W n s ↔ IsP W s p := by
  unfold par
  rw [List.mem_map]
  constructor
  · rintro ⟨i, hi, rfl⟩
    obtain ⟨a, b, _⟩ := nth_ok h n s i hs (List.mem_range.mp hi)
    exact ⟨a, b⟩
  · intro hp
    obtain ⟨a, b⟩ := idx_ok h n p s hs hp
    exact ⟨_, List.mem_range.mpr a, b⟩
theorem lex_irr : ∀ p : List Nat, lex p p = false
  | [] => rfl
  | x :: p => by rw [lex, if_pos rfl, lex_irr p]
theorem lex_tot : ∀ p q : List Nat, p ≠ q → lex p q = true ∨ lex q p = true
  | [], [], h => absurd rfl h
  | [], _ :: _, _ => .inl rfl
  | _ :: _, [], _ => .inr rfl
  | x :: p, y :: q, h => by
    rw [lex, lex]
    by_cases e : x = y
    · rw [if_pos e, if_pos e.symm]
      exact lex_tot p q fun z => h (by rw [e, z])
    · rw [if_neg e, if_neg fun z => e z.symm]
      rcases Nat.lt_or_gt_of_ne e with l | l
      · exact .inl (decide_eq_true l)
      · exact .inr (decide_eq_true l)
theorem lex_asy : ∀ p q : List Nat, lex p q = true → lex q p = false
  | [], [], h => nomatch h
  | [], _ :: _, _ => rfl
  | _ :: _, [], h => nomatch h
  | x :: p, y :: q, h => by
    rw [lex] at h ⊢
    by_cases e : x = y
    · rw [if_pos e] at h
      rw [if_pos e.symm]
      exact lex_asy p q h
    · rw [if_neg e] at h
      rw [if_neg fun z => e z.symm]
      exact decide_eq_false (by have := of_decide_eq_true h; omega)
theorem par_pw {W : List (List Nat)} (h : NE W) {n : Nat} {s : List Nat} (hs : s.length ≤ n) : (par W n s).Pairwise fun p q => lex p q = true := by
  unfold par
  refine List.pairwise_map.mpr (List.Pairwise.imp_of_mem (R := fun i j => i < j) (fun {i j} hi hj hij => ?_) List.pairwise_lt_range)
  exact nth_lt h n s i j hs hij (List.mem_range.mp hj)
theorem nodup_of {l : List (List Nat)} (h : l.Pairwise fun p q => lex p q = true) : l.Nodup := h.imp fun {a b} hab e => by
  rw [e, lex_irr] at hab
  cases hab
/-- two strictly ascending lists with the same items -/
theorem asc_eq : ∀ {l m : List (List Nat)}, (l.Pairwise fun p q => lex p q = true) → (m.Pairwise fun p q => lex p q = true) → (∀ p, p ∈ l ↔ p ∈ m) → l = m
  | [], [], _, _, _ => rfl
  | [], y :: m, _, _, h => absurd ((h y).mpr List.mem_cons_self) (by simp)
  | x :: l, [], _, _, h => absurd ((h x).mp List.mem_cons_self) (by simp)
  | x :: l, y :: m, hl, hm, h => by
    obtain ⟨l1, l2⟩ := List.pairwise_cons.mp hl
    obtain ⟨m1, m2⟩ := List.pairwise_cons.mp hm
    have exy : x = y := by
      rcases List.mem_cons.mp ((h x).mp List.mem_cons_self) with e | hx
      · exact e
      rcases List.mem_cons.mp ((h y).mpr List.mem_cons_self) with e | hy
      · exact e.symm
      have a := lex_asy _ _ (m1 x hx)
      rw [l1 y hy] at a
      cases a
    subst exy
    congr 1
    refine asc_eq l2 m2 fun p => ?_
    constructor
    · intro hp
      rcases List.mem_cons.mp ((h p).mp (List.mem_cons_of_mem _ hp)) with e | q
      · have := l1 p hp
        rw [e, lex_irr] at this
        cases this
      · exact q
    · intro hp
      rcases List.mem_cons.mp ((h p).mpr (List.mem_cons_of_mem _ hp)) with e | q
      · have := m1 p hp
        rw [e, lex_irr] at this
        cases this
      · exact q
/-! ### lists without repetition -/
theorem sub_len {α : Type} [DecidableEq α] : ∀ {l m : List α}, l.Nodup → (∀ x ∈ l, x ∈ m) → l.length ≤ m.length
  | [], m, _, _ => Nat.zero_le _
  | x :: l, m, hn, h => by
    obtain ⟨h1, h2⟩ := List.nodup_cons.mp hn
    have hx := h x List.mem_cons_self
    have := sub_len (l := l) (m := m.erase x) h2 fun y hy => by
      refine (List.mem_erase_of_ne ?_).mpr (h y (List.mem_cons_of_mem _ hy))
      intro e
      exact h1 (e ▸ hy)
    rw [List.length_erase_of_mem hx] at this
    have h0 := List.length_pos_of_mem hx
    rw [List.length_cons]
    omega
theorem sub_all {α : Type} [DecidableEq α] {l m : List α} (hl : l.Nodup) (h : ∀ x ∈ l, x ∈ m) (e : l.length = m.length) : ∀ x ∈ m, x ∈ l := fun x hx => by
  by_cases hxl : x ∈ l
  · exact hxl
  have := sub_len (l := x :: l) (m := m) (List.nodup_cons.mpr ⟨hxl, hl⟩) fun y hy => by
    rcases List.mem_cons.mp hy with rfl | hy
    · exact hx
    · exact h y hy
  rw [List.length_cons] at this
  omega
/-! ### joins in two parts -/
theorem join_app (W : List (List Nat)) : ∀ p q : List Nat, join W (p ++ q) = join W p ++ join W q
  | [], q => rfl
  | j :: p, q => by rw [List.cons_append, join, join, join_app W p q, List.append_assoc]
theorem IsP.app {W : List (List Nat)} {s t p q : List Nat} (a : IsP W s p) (b : IsP W t q) : IsP W (s ++ t) (p ++ q) :=
  ⟨fun j hj => (List.mem_append.mp hj).elim (a.1 j) (b.1 j), by rw [join_app, a.2, b.2]⟩
theorem join_zero {W : List (List Nat)} (h : NE W) : ∀ {p : List Nat}, (∀ j ∈ p, j < W.length) → join W p = [] → p = []
  | [], _, _ => rfl
  | j :: p, hj, e => by
    rw [join] at e
    exact absurd (List.append_eq_nil_iff.mp e).1 (getD_ne h (hj j List.mem_cons_self))
/-- p has a boundary at k -/
def Bd (W : List (List Nat)) (p : List Nat) (k : Nat) : Prop := ∃ i, i ≤ p.length ∧ (join W (p.take i)).length = k
theorem bd_split {W : List (List Nat)} {s p : List Nat} {k : Nat} (hp : IsP W s p) (hk : k ≤ s.length) : Bd W p k ↔ ∃ a b, p = a ++ b ∧ IsP W (s.take k) a ∧ IsP W (s.drop k) b := by
  constructor
  · rintro ⟨i, hi, e⟩
    have ej : join W (p.take i) ++ join W (p.drop i) = s := by rw [← join_app, List.take_append_drop, hp.2]
    refine ⟨p.take i, p.drop i, (List.take_append_drop i p).symm, ⟨fun j hj => hp.1 j (List.mem_of_mem_take hj), ?_⟩, ⟨fun j hj => hp.1 j (List.mem_of_mem_drop hj), ?_⟩⟩
    · rw [← ej, ← e, List.take_left]
    · rw [← ej, ← e, List.drop_left]
  · rintro ⟨a, b, rfl, ha, hb⟩
    refine ⟨a.length, by rw [List.length_append]; omega, ?_⟩
    rw [List.take_left, ha.2, List.length_take]
    omega
/-- the parses that have a boundary at k, made of both parts -/
def two (W : List (List Nat)) (n : Nat) (s : List Nat) (k : Nat) : List (List Nat) := (par W n (s.take k)).flatMap fun a => (par W n (s.drop k)).map fun b => a ++ b
theorem two_len (W : List (List Nat)) (n : Nat) (s : List Nat) (k : Nat) : (two W n s k).length = cnt W (s.take k) * cnt W (s.drop k) := by
  have h : ∀ (l m : List (List Nat)), (l.flatMap fun a => m.map fun b => a ++ b).length = l.length * m.length := fun l m => by
    induction l with
    | nil => rw [List.flatMap_nil, List.length_nil, Nat.zero_mul]
    | cons a l ih => rw [List.flatMap_cons, List.length_append, ih, List.length_map, List.length_cons, Nat.succ_mul, Nat.add_comm]
  unfold two
  rw [h, par_len, par_len]
theorem two_mem {W : List (List Nat)} (h : NE W) {n : Nat} {s : List Nat} (hs : s.length ≤ n) {k : Nat} {p : List Nat} : p ∈ two W n s k ↔ ∃ a b, p = a ++ b ∧ IsP W (s.take k) a ∧ IsP W (s.drop k) b := by
  have h1 : (s.take k).length ≤ n := by rw [List.length_take]; omega
  have h2 : (s.drop k).length ≤ n := by rw [List.length_drop]; omega
  unfold two
  rw [List.mem_flatMap]
  constructor
  · rintro ⟨a, ha, hb⟩
    obtain ⟨b, hb2, rfl⟩ := List.mem_map.mp hb
    exact ⟨a, b, rfl, (par_mem h h1).mp ha, (par_mem h h2).mp hb2⟩
  · rintro ⟨a, b, rfl, ha, hb⟩
    exact ⟨a, (par_mem h h1).mpr ha, List.mem_map.mpr ⟨b, (par_mem h h2).mpr hb, rfl⟩⟩
theorem app_same {W : List (List Nat)} (h : NE W) {t a a' b b' : List Nat} (ha : IsP W t a) (ha' : IsP W t a') (e : a ++ b = a' ++ b') : a = a' := by
  rcases List.append_eq_append_iff.mp e with ⟨c, h1, h2⟩ | ⟨c, h1, h2⟩
  · subst h1
    have e2 := ha'.2
    rw [join_app, ha.2] at e2
    have : join W c = [] := List.self_eq_append_right.mp e2.symm
    rw [join_zero h (fun j hj => ha'.1 j (List.mem_append_right _ hj)) this, List.append_nil]
  · subst h1
    have e2 := ha.2
    rw [join_app, ha'.2] at e2
    have : join W c = [] := List.self_eq_append_right.mp e2.symm
    rw [join_zero h (fun j hj => ha.1 j (List.mem_append_right _ hj)) this, List.append_nil]
theorem two_nodup {W : List (List Nat)} (h : NE W) {n : Nat} {s : List Nat} (hs : s.length ≤ n) {k : Nat} : (two W n s k).Nodup := by
  have h1 : (s.take k).length ≤ n := by rw [List.length_take]; omega
  have h2 : (s.drop k).length ≤ n := by rw [List.length_drop]; omega
  have key : ∀ l : List (List Nat), l.Nodup → (∀ a ∈ l, IsP W (s.take k) a) → (l.flatMap fun a => (par W n (s.drop k)).map fun b => a ++ b).Nodup := fun l => by
    induction l with
    | nil => exact fun _ _ => List.nodup_nil
    | cons a l ih =>
      intro hn hi
      obtain ⟨n1, n2⟩ := List.nodup_cons.mp hn
      rw [List.flatMap_cons, List.nodup_append]
      refine ⟨?_, ih n2 fun b hb => hi b (List.mem_cons_of_mem _ hb), ?_⟩
      · refine List.pairwise_map.mpr ((nodup_of (par_pw h h2)).imp fun {x y} hxy e => hxy (List.append_cancel_left e))
      · rintro p hp q hq rfl
        obtain ⟨b, _, rfl⟩ := List.mem_map.mp hp
        obtain ⟨a', ha', hb'⟩ := List.mem_flatMap.mp hq
        obtain ⟨b', _, e⟩ := List.mem_map.mp hb'
        have := app_same h (hi a' (List.mem_cons_of_mem _ ha')) (hi a List.mem_cons_self) e
        exact n1 (this ▸ ha')
  exact key _ (nodup_of (par_pw h h1)) fun a ha => (par_mem h h1).mp ha
/-- some parse has a boundary at k -/
theorem some_bd {W : List (List Nat)} (h : NE W) {n : Nat} {s : List Nat} (hs : s.length ≤ n) {k : Nat} (hk : k ≤ s.length) : (∃ p ∈ par W n s, Bd W p k) ↔ 0 < cnt W (s.take k) * cnt W (s.drop k) := by
  rw [← two_len W n s k]
  constructor
  · rintro ⟨p, hp, hb⟩
    have hi := (par_mem h hs).mp hp
    exact List.length_pos_of_mem ((two_mem h hs).mpr ((bd_split hi hk).mp hb))
  · intro h0
    obtain ⟨p, hp⟩ := List.exists_mem_of_length_pos h0
    obtain ⟨a, b, rfl, ha, hb⟩ := (two_mem h hs).mp hp
    have hi : IsP W s (a ++ b) := by
      have := ha.app hb
      rwa [List.take_append_drop] at this
    exact ⟨_, (par_mem h hs).mpr hi, (bd_split hi hk).mpr ⟨a, b, rfl, ha, hb⟩⟩
theorem two_sub {W : List (List Nat)} (h : NE W) {n : Nat} {s : List Nat} (hs : s.length ≤ n) {k : Nat} : ∀ p ∈ two W n s k, p ∈ par W n s := fun p hp => by
  obtain ⟨a, b, rfl, ha, hb⟩ := (two_mem h hs).mp hp
  refine (par_mem h hs).mpr ?_
  have := ha.app hb
  rwa [List.take_append_drop] at this
/-- all of them have -/
theorem all_bd {W : List (List Nat)} (h : NE W) {n : Nat} {s : List Nat} (hs : s.length ≤ n) {k : Nat} (hk : k ≤ s.length) : (∀ p ∈ par W n s, Bd W p k) ↔ cnt W (s.take k) * cnt W (s.drop k) = cnt W s := by
  rw [← two_len W n s k, ← par_len W n s]
  constructor
  · intro ha
    refine Nat.le_antisymm (sub_len (two_nodup h hs) (two_sub h hs)) (sub_len (nodup_of (par_pw h hs)) fun p hp => ?_)
    exact (two_mem h hs).mpr ((bd_split ((par_mem h hs).mp hp) hk).mp (ha p hp))
  · intro e p hp
    have := sub_all (two_nodup h hs) (two_sub h hs) e p hp
    exact (bd_split ((par_mem h hs).mp hp) hk).mpr ((two_mem h hs).mp this)
theorem cnt_few {W : List (List Nat)} (h : NE W) {b : Nat} (h1 : 1 ≤ b) (h6 : W.length ≤ b) : ∀ (n : Nat) (s : List Nat), s.length ≤ n → cnt W s ≤ b ^ n
  | n, [], _ => Nat.one_le_pow n b h1
  | 0, c :: s, hs => by
    rw [List.length_cons] at hs
    omega
  | n + 1, c :: s, hs => by
    rw [cnt_left h (List.cons_ne_nil c s)]
    refine Nat.le_trans (sumL_const (b := b ^ n) fun w hw => ?_) ?_
    · by_cases hp : pre w (c :: s) = true
      · rw [if_pos hp]
        have h0 := h.pos hw
        exact cnt_few h h1 h6 n _ (by rw [List.length_drop]; omega)
      · rw [if_neg hp]
        exact Nat.zero_le _
    · rw [Nat.pow_succ, Nat.mul_comm (b ^ n)]
      exact Nat.mul_le_mul_right _ h6
/-! ### parses by their last number -/
/-- the parses of s whose last number is less than m -/
def IsPL (W : List (List Nat)) (s : List Nat) (m : Nat) (p : List Nat) : Prop := ∃ q j, p = q ++ [j] ∧ j < m ∧ IsP W s p
theorem isP_snoc {W : List (List Nat)} {s q : List Nat} {j : Nat} (hj : j < W.length) : IsP W s (q ++ [j]) ↔ suf (W.getD j []) s = true ∧ IsP W (s.take (s.length - (W.getD j []).length)) q := by
  have ej : join W (q ++ [j]) = join W q ++ W.getD j [] := by
    rw [join_app]
    congr 1
    rw [join]
    show _ ++ [] = _
    rw [List.append_nil]
  unfold suf
  rw [decide_eq_true_iff]
  constructor
  · rintro ⟨h1, h2⟩
    rw [ej] at h2
    subst h2
    rw [List.length_append, Nat.add_sub_cancel, List.drop_left, List.take_left]
    exact ⟨⟨by omega, rfl⟩, fun k hk => h1 k (List.mem_append_left _ hk), rfl⟩
  · rintro ⟨⟨h1, h2⟩, h3, h4⟩
    refine ⟨fun k hk => ?_, ?_⟩
    · rcases List.mem_append.mp hk with hk | hk
      · exact h3 k hk
      · rw [List.mem_singleton.mp hk]
        exact hj
    · rw [ej, h4]
      conv => rhs; rw [← List.take_append_drop (s.length - (W.getD j []).length) s]
      rw [h2]
theorem isPL_full {W : List (List Nat)} {s p : List Nat} (hs : s ≠ []) : IsPL W s W.length p ↔ IsP W s p := by
  constructor
  · rintro ⟨_, _, _, _, h⟩
    exact h
  · intro h
    rcases List.eq_nil_or_concat p with rfl | ⟨q, j, rfl⟩
    · exact absurd h.2.symm hs
    · rw [List.concat_eq_append] at h ⊢
      exact ⟨q, j, rfl, h.1 j (List.mem_append_right _ (List.mem_singleton.mpr rfl)), h⟩
theorem isPL_zero {W : List (List Nat)} {s p : List Nat} : ¬ IsPL W s 0 p := fun ⟨_, _, _, h, _⟩ => absurd h (Nat.not_lt_zero _)
theorem isPL_succ {W : List (List Nat)} {s p : List Nat} {m : Nat} (hm : m < W.length) : IsPL W s (m + 1) p ↔ IsPL W s m p ∨ (suf (W.getD m []) s = true ∧ ∃ q, p = q ++ [m] ∧ IsP W (s.take (s.length - (W.getD m []).length)) q) := by
  constructor
  · rintro ⟨q, j, rfl, hj, h⟩
    by_cases e : j = m
    · subst e
      obtain ⟨a, b⟩ := (isP_snoc hm).mp h
      exact .inr ⟨a, q, rfl, b⟩
    · exact .inl ⟨q, j, rfl, by omega, h⟩
  · rintro (⟨q, j, rfl, hj, h⟩ | ⟨a, q, rfl, b⟩)
    · exact ⟨q, j, rfl, by omega, h⟩
    · exact ⟨q, m, rfl, Nat.lt_succ_self _, (isP_snoc hm).mpr ⟨a, b⟩⟩
/-- a list is all parses, each once -/
structure AllP (W : List (List Nat)) (s : List Nat) (L : List (List Nat)) : Prop where
  nd : L.Nodup
  mem : ∀ p, p ∈ L ↔ IsP W s p
structure AllPL (W : List (List Nat)) (s : List Nat) (m : Nat) (L : List (List Nat)) : Prop where
  nd : L.Nodup
  mem : ∀ p, p ∈ L ↔ IsPL W s m p
theorem AllPL.zero {W : List (List Nat)} {s : List Nat} : AllPL W s 0 [] := ⟨List.nodup_nil, fun p => ⟨fun h => absurd h (by simp), fun h => absurd h isPL_zero⟩⟩
theorem AllPL.skip {W : List (List Nat)} {s : List Nat} {m : Nat} {L : List (List Nat)} (h : AllPL W s m L) (hm : m < W.length) (hs : ¬ suf (W.getD m []) s = true) : AllPL W s (m + 1) L :=
  ⟨h.nd, fun p => by
    rw [h.mem, isPL_succ hm]
    exact ⟨.inl, fun q => q.elim id fun z => absurd z.1 hs⟩⟩
theorem AllPL.more {W : List (List Nat)} {s : List Nat} {m : Nat} {L M : List (List Nat)} (h : AllPL W s m L) (hm : m < W.length) (hs : suf (W.getD m []) s = true) (hM : AllP W (s.take (s.length - (W.getD m []).length)) M) : AllPL W s (m + 1) (L ++ M.map fun q => q ++ [m]) where
  nd := by
    rw [List.nodup_append]
    refine ⟨h.nd, List.pairwise_map.mpr (hM.nd.imp fun {a b} hab e => hab (List.append_cancel_right e)), ?_⟩
    rintro p hp q hq rfl
    obtain ⟨q, j, e, hj, _⟩ := (h.mem _).mp hp
    obtain ⟨r, _, e2⟩ := List.mem_map.mp hq
    rw [e] at e2
    have := List.append_inj_right' e2 rfl
    injection this with this
    omega
  mem := fun p => by
    rw [List.mem_append, isPL_succ hm, h.mem]
    constructor
    · rintro (q | q)
      · exact .inl q
      · obtain ⟨r, hr, rfl⟩ := List.mem_map.mp q
        exact .inr ⟨hs, r, rfl, (hM.mem r).mp hr⟩
    · rintro (q | ⟨_, r, rfl, hr⟩)
      · exact .inl q
      · exact .inr (List.mem_map.mpr ⟨r, (hM.mem r).mpr hr, rfl⟩)
theorem AllPL.full {W : List (List Nat)} {s : List Nat} {L : List (List Nat)} (h : AllPL W s W.length L) (hs : s ≠ []) : AllP W s L := ⟨h.nd, fun p => (h.mem p).trans (isPL_full hs)⟩
theorem AllP.nil {W : List (List Nat)} (h : NE W) : AllP W [] [[]] := ⟨List.nodup_cons.mpr ⟨List.not_mem_nil, List.nodup_nil⟩, fun p => by
  rw [List.mem_singleton]
  exact ⟨fun e => (by subst e; exact ⟨fun _ hj => absurd hj List.not_mem_nil, rfl⟩), fun e => join_zero h e.1 e.2⟩⟩
theorem AllP.len {W : List (List Nat)} (h : NE W) {s : List Nat} {L : List (List Nat)} (hL : AllP W s L) : L.length = cnt W s := by
  rw [← par_len W s.length s]
  exact Nat.le_antisymm (sub_len hL.nd fun p hp => (par_mem h (Nat.le_refl _)).mpr ((hL.mem p).mp hp)) (sub_len (nodup_of (par_pw h (Nat.le_refl _))) fun p hp => (hL.mem p).mpr ((par_mem h (Nat.le_refl _)).mp hp))
/-- sorted they come as by their index -/
theorem AllP.sorted {W : List (List Nat)} (h : NE W) {n : Nat} {s : List Nat} (hs : s.length ≤ n) {L M : List (List Nat)} (hL : AllP W s L) (hp : M.Perm L) (hm : M.Pairwise fun p q => lex q p = false) : M = par W n s := by
  refine asc_eq ?_ (par_pw h hs) fun p => ?_
  · have hn : M.Nodup := hp.nodup_iff.mpr hL.nd
    refine (List.pairwise_and_iff.mpr ⟨hm, hn⟩).imp fun {a b} hab => ?_
    rcases lex_tot a b hab.2 with q | q
    · exact q
    · rw [hab.1] at q
      cases q
  · rw [hp.mem_iff, hL.mem, par_mem h hs]
end SyM
/-! Syncedwords: tuples of numbers, of any lengths and as many as there are, sorted. -/
namespace SyS
open PySem PySem.Spec PyProof.Rows
theorem lex_asym : ∀ {a b : List Int}, HT.lexLt a b = true → HT.lexLt b a = false
  | [], [], _ => rfl
  | [], _ :: _, _ => rfl
  | _ :: _, [], h => nomatch h
  | x :: a, y :: b, h => by
    rw [HT.lexLt_cons] at h ⊢
    by_cases e : x = y
    · rw [if_pos e] at h
      rw [if_pos e.symm]
      exact lex_asym h
    · rw [if_neg e] at h
      rw [if_neg fun z => e z.symm]
      have := of_decide_eq_true h
      exact decide_eq_false (by omega)
theorem lex_tr : ∀ {a b c : List Int}, HT.lexLt a b = false → HT.lexLt b c = false → HT.lexLt a c = false
  | [], [], _, _, h => h
  | [], _ :: _, _, h, _ => nomatch h
  | _ :: _, _, [], _, _ => rfl
  | _ :: _, [], _ :: _, _, h => nomatch h
  | x :: a, y :: b, z :: c, h1, h2 => by
    rw [HT.lexLt_cons] at h1 h2 ⊢
    by_cases e1 : x = y
    · rw [if_pos e1] at h1
      by_cases e2 : y = z
      · rw [if_pos e2] at h2
        rw [if_pos (e1.trans e2)]
        exact lex_tr h1 h2
      · rw [if_neg e2] at h2
        rw [if_neg fun q => e2 (e1.symm.trans q), e1]
        exact h2
    · rw [if_neg e1] at h1
      have g1 := of_decide_eq_false h1
      by_cases e2 : y = z
      · rw [if_neg fun q => e1 (q.trans e2.symm), ← e2]
        exact h1
      · rw [if_neg e2] at h2
        have g2 := of_decide_eq_false h2
        rw [if_neg (by omega)]
        exact decide_eq_false (by omega)
theorem swo {α : Type} (k : α → List Int) : SrtO.Swo fun v u => HT.lexLt (k v) (k u) := ⟨fun _ _ h => lex_asym h, fun _ _ _ h1 h2 => lex_tr h2 h1⟩
section
variable {prog : Program} {w : World} {A : Around} {E : Value → Shared → Prop} {s : Shared}
theorem kat {b : Bool} {fin : Bool} {Q : Bool → Shared → Prop} : ∀ {xs ys : List Value} {ns ms : List Int} (i : Nat), IntsAre xs ns → IntsAre ys ms → fin = decide (ns.length < ms.length) → Q (HT.lexLt ns ms) s → PySem.W.KatLex prog w A b fin Q (xs.zip ys) i s
  | _, _, _, _, i, .nil, .nil, e, h => by
    subst e
    exact PySem.W.kat_nil h
  | _, _, _, _, i, .nil, .cons q u r, e, h => by
    subst e
    exact PySem.W.kat_nil h
  | _, _, _, _, i, .cons p t r, .nil, e, h => by
    subst e
    exact PySem.W.kat_nil h
  | _, _, _, _, i, .cons (vs := xs) (ns := ns) p t r, .cons (vs := ys) (ns := ms) q u r', e, h => by
    rw [HT.lexLt_cons] at h
    refine PySem.W.kat_cons (SeqAt.EqAt.int_int p t q u prog w _ _ ?_)
    refine PySem.W.kat_go (fun e1 => ?_) (fun e1 => ?_)
    · have ep : p = q := by simpa using e1
      rw [if_pos ep] at h
      exact PySem.W.kat_yes (kat (i + 1) r r' (by rw [e, List.length_cons, List.length_cons]; exact decide_eq_decide.mpr (Nat.add_lt_add_iff_right)) h)
    · have ep : ¬ p = q := by simpa using e1
      rw [if_neg ep] at h
      exact PySem.W.kat_no (TS.oneLt_ints _ h)
theorem cmp {vs : List Value} {k : Value → List Int} (hp : ∀ v ∈ vs, TS.TupInts s.heap v (k v)) : SrtO.Cmp prog w A s (tuples' true) (fun p => p.1 ∈ vs) (SrtO.lt2 fun v u => HT.lexLt (k v) (k u)) := by
  intro p q hm hm'
  have h1 := hp _ hm
  have h2 := hp _ hm'
  show wpAny (model prog w) A (keyLt' (tuples' true) p.1 q.1) (fun r s' => s' = s ∧ r = HT.lexLt (k p.1) (k q.1)) (fun _ _ => False) s
  generalize k p.1 = ns at h1 ⊢
  generalize k q.1 = ms at h2 ⊢
  obtain ⟨a, its, e, ⟨o, ho, hc, n, hd⟩, hi⟩ := h1
  obtain ⟨a', its', e', ⟨o', ho', hc', n', hd'⟩, hi'⟩ := h2
  rw [e, e']
  refine PySem.W.kat_lt ho hd ho' hd' (kat 0 hi hi' ?_ ⟨rfl, rfl⟩)
  have l1 := hi.length
  have l2 := hi'.length
  rw [Array.length_toList] at l1 l2
  rw [l1, l2]
theorem firsts {h : Heap} {k : Value → List Int} : ∀ {vs : List Value}, (∀ v ∈ vs, TS.TupInts h v (k v)) → (∀ v ∈ vs, k v ≠ []) → ∃ fs : List Value, PySem.W.KatTups h vs fs ∧ fs.length = vs.length ∧ ∀ f ∈ fs, ∃ x t, f = Value.int x t
  | [], _, _ => ⟨[], PySem.W.KatTups.nil, rfl, fun _ hm => by simp at hm⟩
  | v :: vs, hp, hn => by
    obtain ⟨fs, h1, h2, h3⟩ := firsts (vs := vs) (fun v' hm => hp v' (List.mem_cons_of_mem _ hm)) fun v' hm => hn v' (List.mem_cons_of_mem _ hm)
    obtain ⟨a, its, e, ⟨o, ho, hc, n, hd⟩, hi⟩ := hp v List.mem_cons_self
    have ne := hn v List.mem_cons_self
    generalize k v = ns at hi ne
    subst e
    obtain ⟨its⟩ := its
    cases hi with
    | nil => exact absurd rfl ne
    | cons x t r =>
      exact ⟨.int x t :: fs, PySem.W.KatTups.cons ho hc hd rfl h1, by rw [List.length_cons, List.length_cons, h2], fun f hm => by
        rcases List.mem_cons.mp hm with rfl | hm
        · exact ⟨x, t, rfl⟩
        · exact h3 f hm⟩
theorem sortable {a : Addr} {vs : List Value} {k : Value → List Int} (h0 : 0 < vs.length) (hp : ∀ v ∈ vs, TS.TupInts s.heap v (k v)) (hn : ∀ v ∈ vs, k v ≠ []) (ha : ∀ o, s.heap.get? a = some o → o.cls ≠ .type "tuple") : SrtO.SortableO prog w A s a vs fun v u => HT.lexLt (k v) (k u) := by
  intro h' keep
  have hp' : ∀ v ∈ vs, TS.TupInts h' v (k v) := fun v hm => (hp v hm).keeps fun b o e c => keep b o (fun z => by subst z; exact ha o e c) e
  obtain ⟨fs, h1, h2, h3⟩ := firsts hp' hn
  refine ⟨tuples' true, fun Q E hq => ?_, cmp hp'⟩
  refine PySem.W.kat_kind (T := .type "int") h1 (by omega) (fun f hm => ?_) (by rfl) ?_
  · obtain ⟨x, t, rfl⟩ := h3 f hm
    exact PySem.W.Looks.now
  · have e : (Value.type "int" != Value.type "tuple") = true := by first | decide +kernel | rfl | decide
    rw [e]
    exact hq
theorem sorted_tups {l : Addr} {vs : List Value} {k : Value → List Int} {Q : Value → Shared → Prop} (hl : s.heap.IsList l vs.toArray) (hz : vs.length ≤ sizeLine) (hp : ∀ v ∈ vs, TS.TupInts s.heap v (k v)) (hn : 2 ≤ vs.length → ∀ v ∈ vs, k v ≠ [])
    (h : ∀ (h' : Heap) (d : Addr) (out : List Value), SrtO.Srtd (fun v u => HT.lexLt (k v) (k u)) out → SrtO.Stb (fun v u => HT.lexLt (k v) (k u)) out vs → (∀ b o, s.heap.get? b = some o → h'.get? b = some o) → s.heap.objs.size ≤ d → (∃ n, h'.get? d = some (seqObj "list" out.toArray n)) → Q (.ref d) { s with heap := h' }) :
    wpAny (model prog w) A (call (.builtin "sorted") [.ref l]) Q E s := by
  refine SrtO.sorted_ord (swo k) hl hz (fun h2 h₁ a ha kk => ?_) fun out hs hb => ?_
  · refine sortable (s := { s with heap := h₁ }) (by omega) (fun v hm => (hp v hm).keeps fun b o e _ => (kk b o e).2) (hn h2) fun o e => ?_
    have e' : some o = some (seqObj "list" vs.toArray 0) := e.symm.trans ha
    cases e'
    intro c
    exact absurd (Value.type.inj c) (by decide)
  · exact h _ _ out hs hb (fun b o e => PyProof.Rows.sortedAll_old e) (Nat.le_succ _) (PyProof.Rows.sortedAll_at s.heap vs out.toArray)
end
end SyS
namespace L2
open PySem PySem.Spec PyProof.Rows
/-- sorted(xs), xs a list of tuples of ints -/
def rSortedTs (K : PySem.W.Frag) : List V → Hp → VK → Prop := fun vs H Q => ∃ (a : Addr) (xs : List V) (k : V → List Int), vs = [V.ref a] ∧ SqL K H a xs ∧ (∀ x ∈ xs, ∃ t, x = V.ref t ∧ SqT K H t ((k x).map V.int)) ∧ (2 ≤ xs.length → ∀ x ∈ xs, k x ≠ []) ∧
  ∀ ys p, SrtO.Srtd (fun x y => HT.lexLt (k x) (k y)) ys → SrtO.Stb (fun x y => HT.lexLt (k x) (k y)) ys xs → H p = none → Q (.ref p) (upd H p (.lst ys))
section
variable {X : Cx}
theorem cr_sortedTs : CallR X (.builtin "sorted") (rSortedTs X.K) := by
  intro pins s σ H vs us Q I r h
  obtain ⟨a, xs, k, rfl, hs, hx, hn, q⟩ := h
  obtain ⟨its, rv, hl, hz⟩ := I.list hs
  obtain ⟨u, rfl, ru⟩ := vals1 r
  obtain rfl : u = Value.ref a := ru
  obtain ⟨e1, e2⟩ := refs_back rv fun x m => by
    obtain ⟨t, e, _⟩ := hx x m
    exact ⟨t, e⟩
  refine SyS.sorted_tups (k := fun u => k (backV u)) hl.isList (by rw [← rv.length]; exact hz) (fun v hv => ?_) (fun h2 v hv => ?_) fun h' d out h1 h2 kp hd hn => ?_
  · obtain ⟨t, rfl⟩ := e2 v hv
    have hm : V.ref t ∈ xs := by rw [e1]; exact List.mem_map.mpr ⟨_, hv, rfl⟩
    obtain ⟨t', e, ht⟩ := hx _ hm
    cases e
    exact tupI_raw I ht
  · obtain ⟨t, rfl⟩ := e2 v hv
    have hm : V.ref t ∈ xs := by rw [e1]; exact List.mem_map.mpr ⟨_, hv, rfl⟩
    exact hn (by rw [rv.length]; exact h2) _ hm
  · have h3 : ∀ u ∈ out, ∃ a, u = Value.ref a := fun u hu => e2 u (h2.perm.mem_iff.mp hu)
    obtain ⟨n, hn⟩ := hn
    have hb : SrtO.Stb (fun x y => HT.lexLt (k x) (k y)) (out.map backV) xs := by
      rw [e1]
      exact SrtO.Stb.map (SyS.swo k) backV h2
    refine ⟨.ref d, upd H d (.lst (out.map backV)), I.laid (t' := s.toks) kp hd ⟨?_, out, n, vals_back h3, hn⟩, rfl, q _ d (SrtO.srtd_map h1) hb (I.hok.fresh hd)⟩
    rw [hb.len]
    exact hz
end
end L2
/-! Syncedwords, part 2: the numbers that a script gives. -/
namespace Sy
open PySem PySem.Spec PyProof.Rows L2
open C8 (pss_cut tCut)
def topS (i : Nat) : Stmt := PySem.Challenge.pw_syncedwords_k03_parses_of_longer_strings.main.body.getD i (.Pass ⟨0, 0, 0, 0⟩)
abbrev sStream : Stmt := topS 36
abbrev sNext : Stmt := topS 37
theorem scStream : FnScope ["script"] ["script"] (defScope sStream) := ⟨rfl, rfl, rfl, by decide +kernel, rfl, by decide +kernel, by decide +kernel⟩
theorem scNext : FnScope ["stream", "many", "k", "cell", "digit"] ["stream", "many"] (defScope sNext) := ⟨rfl, rfl, rfl, by decide +kernel, rfl, by decide +kernel, by decide +kernel⟩

/-- a stream at s: a list of a list at l, a rest, and how many numbers were taken -/
def Strm (l : Addr) (H : Hp) (s : Addr) : Prop := l ≠ s ∧ ∃ (ns : List Int) (x k : Int), H l = some (.lst (ns.map V.int)) ∧ ns.length ≤ 63 ∧ H s = some (.lst [.ref l, .int x, .int k]) ∧ 0 ≤ x ∧ 0 ≤ k
theorem Strm.at {l s : Addr} {H : Hp} (h : Strm l H s) : ∃ o, H s = some o := ⟨_, h.2.choose_spec.choose_spec.choose_spec.2.2.1⟩
theorem Strm.new {l s p : Addr} {H : Hp} {o : HO} (h : Strm l H s) (n : H p = none) : Strm l (upd H p o) s := by
  obtain ⟨ne, ns, x, k, h1, h2, h3, h4⟩ := h
  exact ⟨ne, ns, x, k, by rw [upd_ne (ne_of_none h1 n)]; exact h1, h2, by rw [upd_ne (ne_of_none h3 n)]; exact h3, h4⟩
theorem Strm.put {l s p : Addr} {H : Hp} {o : HO} (h : Strm l H s) (n1 : p ≠ s) (n2 : p ≠ l) : Strm l (upd H p o) s := by
  obtain ⟨ne, ns, x, k, h1, h2, h3, h4⟩ := h
  exact ⟨ne, ns, x, k, by rw [upd_ne n2.symm]; exact h1, h2, by rw [upd_ne n1.symm]; exact h3, h4⟩

def spStream (K : PySem.W.Frag) : Sp := fun vs H Q _ => ∃ (a : Addr) (ns : List Int), vs = [.ref a] ∧ SqL K H a (ns.map V.int) ∧ ns.length ≤ 63 ∧ ∀ l s H', Same H H' → H s = none → H l = none → Strm l H' s → Q (.ref s) H'
def spNext : Sp := fun vs H Q _ => ∃ (l s : Addr) (m : Int), vs = [.ref s, .int m] ∧ Strm l H s ∧ 0 < m ∧ m < 1073741824 ∧ ∀ d H', 0 ≤ d → d < m → Keep s H H' → Strm l H' s → Q (.int d) H'

section
variable {P : Program} {w : World} {K : PySem.W.Frag} {mg : Str → Option Value} {base : Heap}
theorem ok_stream {f : Addr} {fd : FuncData} (F : Fun K "_law_stream" "_law_stream" sStream f fd) (ml : mg "list" = none) : FnOk P w K mg base CX0 1 f fd ["script"] (spStream K) := by
  refine F.ok scStream (fun vs H Q E h => ?_) (fun cdv A outer s H vs Q E hr h => ?_)
  · obtain ⟨a, ns, rfl, _⟩ := h
    rfl
  · obtain ⟨a, ns, rfl, hS, hl, q⟩ := h
    refine ⟨_, pss_one (ps_ret (pe_lst (pa_cons (pe_callTy call_list_of (by rfl) ml (by decide +kernel) (pa_cons (pv 0) pa_nil)) (pa_cons pe_int (pa_cons pe_int pa_nil))))), ?_⟩
    refine ⟨_, rfl, a, _, rfl, .inl hS, fun l hl0 => ⟨(by show 3 ≤ sizeLine; decide), fun p hp => ?_⟩⟩
    have nlp : l ≠ p := fun e => by
      rw [← e, upd_same] at hp
      cases hp
    have hp0 : H p = none := by
      rw [upd_ne nlp.symm] at hp
      exact hp
    exact q l p _ (Same.new (Same.new (Same.refl H) hl0) hp) hp0 hl0 ⟨nlp, ns, 0, 0, by rw [upd_ne nlp, upd_same], hl, upd_same, Int.le_refl _, Int.le_refl _⟩

theorem ok_next {f : Addr} {fd : FuncData} (F : Fun K "_law_next" "_law_next" sNext f fd) (ml : mg "len" = none) (ma : mg "abs" = none) (mi : mg "int" = none) : FnOk P w K mg base CX0 1 f fd ["stream", "many"] spNext := by
  refine F.ok scNext (fun vs H Q E h => ?_) (fun cdv A outer s H vs Q E hr h => ?_)
  · obtain ⟨l, s, m, rfl, _⟩ := h
    rfl
  · obtain ⟨l, p, m, rfl, hst, hm0, hm1, q⟩ := h
    refine ⟨_, pss_cut (ps_if (pt_cmpR op_eq (pe_ix ix_list (pv 0) pe_int (fun _ _ => rfl)) pe_int (nomark _))
        (pss_cons (ps_set (i := 2) scNext.nd rfl (.inl rfl) (pe_ix ix_list (pv 0) pe_int (fun _ _ => rfl)))
        (pss_cons (ps_set (i := 3) scNext.nd rfl (.inl rfl) (pe_op op_add pe_int (pv 2)))
        (pss_cut (ps_if (pt_cmpR op_lt (pv 2) (pe_callB call_len_seq (by rfl) ml PySem.boot_len (pa_cons (pe_ix ix_list (pv 0) pe_int (fun _ _ => rfl)) pa_nil)) (nomark _))
          (pss_one (ps_set (i := 3) scNext.nd rfl (.inl rfl) (pe_callB call_abs (by rfl) ma (by decide +kernel) (pa_cons (pe_ix ix_list (pe_ix ix_list (pv 0) pe_int (fun _ _ => rfl)) (pv 2) (fun _ _ => rfl)) pa_nil)))) pss_nil)
        (pss_cut (ps_if (pt_cmpR op_lt (pv 3) (pe_op op_pow pe_int pe_int) (nomark _))
          (pss_cons (ps_set (i := 3) scNext.nd rfl (.inl rfl) (pe_op op_mod (pe_callTy call_int1 (by rfl) mi (by decide +kernel) (pa_cons (pe_op op_add (pe_op op_add (pe_op op_mul (pv 3) pe_int) (pe_op op_mul (pv 2) pe_int)) pe_int) pa_nil)) pe_int))
          (pss_one (ps_set (i := 3) scNext.nd rfl (.inl rfl) (pe_op op_add (pe_op op_mul (pe_op op_mod (pe_callTy call_int1 (by rfl) mi (by decide +kernel) (pa_cons (pe_op op_add (pe_op op_mul (pv 3) pe_int) pe_int) pa_nil)) pe_int) pe_int) (pv 3))))) pss_nil)
        (pss_cons (ps_asg (pv 3) (pg_sub (pv 0) pe_int set_list))
        (pss_one (ps_asg (pe_op op_add (pv 2) pe_int) (pg_sub (pv 0) pe_int set_list))))))))
        pss_nil)
      (pss_cons (ps_set (i := 4) scNext.nd rfl (.inl rfl) (pe_op op_mod (pe_callTy call_int1 (by rfl) mi (by decide +kernel) (pa_cons (pe_ix ix_list (pv 0) pe_int (fun _ _ => rfl)) pa_nil)) (pv 1)))
      (pss_cons (ps_asg (pe_op op_fdivN (pe_ix ix_list (pv 0) pe_int (fun _ _ => rfl)) (pv 1)) (pg_sub (pv 0) pe_int set_list))
      (pss_one (ps_ret (pv 4))))), ?_⟩
    obtain ⟨ne, ns, x, k, h1, h2, h3, hx, hk⟩ := hst
    have S3 : SqL K H p [.ref l, .int x, .int k] := SqL.of h3
    refine ⟨fun σ' H' => Keep p H H' ∧ Strm l H' p ∧ ∃ y2 y3 y4, σ' = [some (.ref p), some (.int m), y2, y3, y4], ?_, ?_⟩
    · refine ⟨_, rfl, p, _, 1, .int x, rfl, rfl, S3, atI_nat (j := 1) rfl, rfl, _, rfl, ite2 (fun _ => ?_) (fun _ => ?_)⟩
      · refine ⟨_, rfl, p, _, 2, .int k, rfl, rfl, S3, atI_nat (j := 2) rfl, ?_⟩
        refine ⟨_, rfl, 7, k, rfl, rfl, ?_⟩
        refine ⟨fun σ' H' => H = H' ∧ ∃ c : Int, 0 ≤ c ∧ σ' = [some (.ref p), some (.int m), some (.int k), some (.int c), none], ?_, ?_⟩
        · refine ⟨_, rfl, _, rfl, p, _, 0, .ref l, rfl, rfl, S3, atI_nat (j := 0) rfl, l, _, rfl, .inl (SqL.of h1), k, _, rfl, rfl, _, rfl, ite2 (fun e => ?_) (fun _ => ?_)⟩
          · have hlt := of_decide_eq_true e
            rw [List.length_map] at hlt
            have hj : k.toNat < ns.length := by omega
            have ek : k = ((k.toNat : Nat) : Int) := by omega
            have g : (ns.map V.int)[k.toNat]? = some (.int ns[k.toNat]) := by
              rw [List.getElem?_map, List.getElem?_eq_getElem hj]
              rfl
            refine ⟨_, rfl, p, _, 0, .ref l, rfl, rfl, S3, atI_nat (j := 0) rfl, _, rfl, l, _, k, _, rfl, rfl, SqL.of h1, at_of ek g, _, rfl, rfl, _, ?_, rfl⟩
            split <;> omega
          · exact ⟨rfl, _, by omega, rfl⟩
        · rintro σ' H' ⟨rfl, c, hc, rfl⟩
          refine ⟨fun σ' H' => H = H' ∧ ∃ c : Int, 0 ≤ c ∧ σ' = [some (.ref p), some (.int m), some (.int k), some (.int c), none], ?_, ?_⟩
          · refine ⟨_, rfl, 10, 18, rfl, rfl, ⟨by decide, by decide, by decide⟩, c, _, rfl, rfl, _, rfl, ite2 (fun _ => ?_) (fun _ => ⟨rfl, c, hc, rfl⟩)⟩
            refine ⟨_, rfl, c, 48271, rfl, rfl, .inr ⟨by decide, by decide⟩, _, rfl, k, 69621, rfl, rfl, .inr ⟨by decide, by decide⟩, _, _, rfl, rfl, _, _, rfl, rfl, .inl ⟨_, rfl, _, _, rfl, rfl, (by show (0 : Int) < 2147483647; decide), ?_⟩⟩
            refine ⟨_, rfl, _, 16807, rfl, rfl, .inr ⟨by decide, by decide⟩, _, _, rfl, rfl, .inl ⟨_, rfl, _, _, rfl, rfl, (by show (0 : Int) < 2147483647; decide), _, _, rfl, rfl, .inr ⟨by decide, by decide⟩, _, rfl, _, _, rfl, rfl, ?_⟩⟩
            refine ⟨rfl, _, ?_, rfl⟩
            have m1 := Int.emod_nonneg (c * 48271 + k * 69621 + 11) (show (2147483647 : Int) ≠ 0 by decide)
            have m2 := Int.emod_nonneg ((c * 48271 + k * 69621 + 11) % 2147483647 * 16807 + 13) (show (2147483647 : Int) ≠ 0 by decide)
            omega
          · rintro σ' H' ⟨rfl, c, hc, rfl⟩
            refine ⟨_, rfl, _, rfl, p, _, 1, 1, rfl, rfl, h3, rfl, ?_⟩
            refine ⟨_, rfl, k, 1, rfl, rfl, _, rfl, p, _, 2, 2, rfl, rfl, upd_same, rfl, ?_⟩
            refine ⟨(Keep.refl _).put.put, ⟨ne, ns, c, k + 1, ?_, h2, upd_same, hc, by omega⟩, _, _, _, rfl⟩
            rw [upd_ne ne, upd_ne ne]
            exact h1
      · exact ⟨Keep.refl _, ⟨ne, ns, x, k, h1, h2, h3, hx, hk⟩, _, _, _, rfl⟩
    · rintro σ' H' ⟨kp, ⟨_, ns, x, k, h1, h2, h3, hx, hk⟩, y2, y3, y4, rfl⟩
      have S3 : SqL K H' p [.ref l, .int x, .int k] := SqL.of h3
      refine ⟨_, rfl, p, _, 1, .int x, rfl, rfl, S3, atI_nat (j := 1) rfl, .inl ⟨x, rfl, _, rfl, x, m, rfl, rfl, hm0, ?_⟩⟩
      refine ⟨_, rfl, p, _, 1, .int x, rfl, rfl, S3, atI_nat (j := 1) rfl, _, rfl, x, m, rfl, rfl, ⟨by omega, by omega⟩, ?_⟩
      refine ⟨_, rfl, p, _, 1, 1, rfl, rfl, h3, rfl, _, rfl, ?_⟩
      refine q _ _ (Int.emod_nonneg _ (by omega)) (Int.emod_lt_of_pos _ hm0) kp.put ⟨ne, ns, x.fdiv m, k, by rw [upd_ne ne]; exact h1, h2, upd_same, ?_, hk⟩
      rw [Int.fdiv_eq_ediv_of_nonneg _ (by omega)]
      exact Int.ediv_nonneg hx (by omega)
end
end Sy
/-! Syncedwords, part 3: what a law draws: one of a list, a text, a code. -/
namespace Sy
open PySem PySem.Spec PyProof.Rows L2
open C8 (pss_cut tCut)
abbrev sPick : Stmt := topS 40
abbrev sString : Stmt := topS 41
abbrev sCode : Stmt := topS 42
theorem scPick : FnScope ["stream", "rows"] ["stream", "rows"] (defScope sPick) := ⟨rfl, rfl, rfl, by decide +kernel, rfl, by decide +kernel, by decide +kernel⟩
theorem scString : FnScope ["stream", "least", "most", "letters", "k"] ["stream", "least", "most", "letters"] (defScope sString) := ⟨rfl, rfl, rfl, by decide +kernel, rfl, by decide +kernel, by decide +kernel⟩
theorem scCode : FnScope ["stream", "many", "most", "letters", "words", "turn", "word"] ["stream", "many", "most"] (defScope sCode) := ⟨rfl, rfl, rfl, by decide +kernel, rfl, by decide +kernel, by decide +kernel⟩

/-- only the first m of the letters -/
def Lets (m : Int) (z : Str) : Prop := ∀ c ∈ TL.tl z, 97 ≤ c ∧ (c : Int) < 97 + m
theorem joinL_nil : ∀ ps : List (List Nat), TL.joinL [] ps = ps.flatten
  | [] => rfl
  | [p] => by simp [TL.joinL]
  | p :: q :: r => by
    show p ++ ([] ++ TL.joinL [] (q :: r)) = p ++ (q :: r).flatten
    rw [List.nil_append, joinL_nil (q :: r)]
theorem tl_join0 (ys : List Str) : TL.tl (Txt.join "" ys) = (ys.map TL.tl).flatten := by
  rw [TL.join_eq, TL.tl_join]
  exact joinL_nil _
/-- signs, one behind another -/
theorem join_signs {m : Int} : ∀ {ys : List Str}, (∀ y ∈ ys, ∃ c : Nat, y = ⟨#[c]⟩ ∧ 97 ≤ c ∧ (c : Int) < 97 + m) → (ys.map TL.tl).flatten.length = ys.length ∧ ∀ c ∈ (ys.map TL.tl).flatten, 97 ≤ c ∧ (c : Int) < 97 + m
  | [], _ => ⟨rfl, fun c h => by simp at h⟩
  | y :: ys, h => by
    obtain ⟨c, rfl, h1, h2⟩ := h y List.mem_cons_self
    obtain ⟨i1, i2⟩ := join_signs fun z hz => h z (List.mem_cons_of_mem _ hz)
    have e : (((⟨#[c]⟩ : Str) :: ys).map TL.tl).flatten = c :: (ys.map TL.tl).flatten := rfl
    rw [e]
    refine ⟨by rw [List.length_cons, i1, List.length_cons], fun d hd => ?_⟩
    rcases List.mem_cons.mp hd with rfl | hd
    · exact ⟨h1, h2⟩
    · exact i2 d hd
theorem lets_join {m : Int} {ys : List Str} (h : ∀ y ∈ ys, ∃ c : Nat, y = ⟨#[c]⟩ ∧ 97 ≤ c ∧ (c : Int) < 97 + m) : Lets m (Txt.join "" ys) ∧ (Txt.join "" ys).length = ys.length := by
  obtain ⟨h1, h2⟩ := join_signs h
  refine ⟨fun c hc => h2 c ?_, ?_⟩
  · rw [← tl_join0]
    exact hc
  · rw [TL.len_tl, tl_join0, h1]

def spPick : Sp := fun vs H Q _ => ∃ (l s r : Addr) (xs : List V), vs = [.ref s, .ref r] ∧ Strm l H s ∧ H r = some (.lst xs) ∧ r ≠ s ∧ 0 < xs.length ∧ xs.length ≤ 1000 ∧ ∀ (i : Nat) x H', xs[i]? = some x → Keep s H H' → Strm l H' s → Q x H'
def spPickT (K : PySem.W.Frag) : Sp := fun vs H Q _ => ∃ (l s r : Addr) (xs : List V), vs = [.ref s, .ref r] ∧ Strm l H s ∧ SqT K H r xs ∧ 0 < xs.length ∧ xs.length ≤ 1000 ∧ ∀ (i : Nat) x H', xs[i]? = some x → Keep s H H' → Strm l H' s → Q x H'
def spString : Sp := fun vs H Q _ => ∃ (l s : Addr) (lo hi m : Int), vs = [.ref s, .int lo, .int hi, .int m] ∧ Strm l H s ∧ 0 ≤ lo ∧ lo ≤ hi ∧ hi ≤ 1000 ∧ 0 < m ∧ m ≤ 3 ∧
  ∀ z H', Keep s H H' → Strm l H' s → Lets m z → lo ≤ z.length → (z.length : Int) ≤ hi → Q (.str z) H'
def spCode : Sp := fun vs H Q _ => ∃ (l s : Addr) (many most : Int), vs = [.ref s, .int many, .int most] ∧ Strm l H s ∧ 0 ≤ many ∧ many ≤ 100 ∧ 1 ≤ most ∧ most ≤ 100 ∧
  ∀ c (ws : List Str) H', Keep s H H' → Strm l H' s → H c = none → H' c = some (.tup (ws.map V.str)) → ws.Nodup → (ws.length : Int) ≤ many → (∀ z ∈ ws, Lets 3 z ∧ 1 ≤ z.length ∧ (z.length : Int) ≤ most) → Q (.ref c) H'

theorem Keep.put' {a p : Addr} {o : HO} {H H1 : Hp} (k : Keep a H H1) (n : H p = none) : Keep a H (upd H1 p o) := fun b u nb e => by
  rw [upd_ne (ne_of_none e n)]
  exact k b u nb e
theorem Strm.ne {l s p : Addr} {H : Hp} (h : Strm l H s) (n : H p = none) : p ≠ s ∧ p ≠ l := by
  obtain ⟨ne, ns, x, k, h1, h2, h3, h4⟩ := h
  exact ⟨(ne_of_none h3 n).symm, (ne_of_none h1 n).symm⟩

/-- a comprehension's turn without an if -/
theorem tYes_ok {σ : L2.St} {H : Hp} {A B : Hp → Prop} (h : A H) : tYes σ H (fun b H3 => if b = true then A H3 else B H3) := by
  show (if true = true then A H else B H)
  rw [if_pos rfl]
  exact h
section
variable {P : Program} {w : World} {K : PySem.W.Frag} {mg : Str → Option Value} {base : Heap}
/-- one of the two items of a turn: the abc letter at d -/
theorem abc_at {d m : Int} (h0 : 0 ≤ d) (h1 : d < m) (h3 : m ≤ 3) : ∃ c : Nat, atI (("abc" : Str).cps.toList) d = some c ∧ 97 ≤ c ∧ (c : Int) < 97 + m := by
  have e : ("abc" : Str).cps.toList = [97, 98, 99] := by decide +kernel
  rw [e]
  obtain h | h | h : d = 0 ∨ d = 1 ∨ d = 2 := by omega
  · subst h
    exact ⟨97, rfl, Nat.le_refl _, by omega⟩
  · subst h
    exact ⟨98, rfl, by decide, by omega⟩
  · subst h
    exact ⟨99, rfl, by decide, by omega⟩
theorem ok_pick {f fn : Addr} {fd fdn : FuncData} (F : Fun K "_law_pick" "_law_pick" sPick f fd) (FN : Fun K "_law_next" "_law_next" sNext fn fdn) (GN : FnOk P w K mg base CX0 1 fn fdn ["stream", "many"] spNext) (bN : Binds K fdn ["stream", "many"] [])
    (gN : mg "_law_next" = some (.ref fn)) (ml : mg "len" = none) : FnOk P w K mg base CX0 2 f fd ["stream", "rows"] spPick := by
  refine F.ok scPick (fun vs H Q E h => ?_) (fun cdv A outer s H vs Q E hr h => ?_)
  · obtain ⟨l, s, r, xs, rfl, _⟩ := h
    rfl
  · obtain ⟨l, p, r, xs, rfl, hst, hr1, hne, h0, h1, q⟩ := h
    refine ⟨_, pss_one (ps_ret (pe_ix ix_list (pv 1) (pe_call GN (hr.mono (by decide)) (by rfl) gN FN.kp bN .nil pass0 (pa_cons (pv 0) (pa_cons (pe_callB call_len_seq (by rfl) ml PySem.boot_len (pa_cons (pv 1) pa_nil)) pa_nil))) (fun _ _ => rfl))), ?_⟩
    refine ⟨_, rfl, _, rfl, _, rfl, r, xs, rfl, .inl (SqL.of hr1), l, p, _, rfl, hst, by omega, by omega, fun d H' d0 d1 kp st => ?_⟩
    have hd : d.toNat < xs.length := by omega
    exact ⟨r, xs, d, xs[d.toNat], rfl, rfl, SqL.of (kp _ _ hne hr1), at_of (by omega) (List.getElem?_eq_getElem hd), q _ _ _ (List.getElem?_eq_getElem hd) kp st⟩
theorem ok_pickT {f fn : Addr} {fd fdn : FuncData} (F : Fun K "_law_pick" "_law_pick" sPick f fd) (FN : Fun K "_law_next" "_law_next" sNext fn fdn) (GN : FnOk P w K mg base CX0 1 fn fdn ["stream", "many"] spNext) (bN : Binds K fdn ["stream", "many"] [])
    (gN : mg "_law_next" = some (.ref fn)) (ml : mg "len" = none) : FnOk P w K mg base CX0 2 f fd ["stream", "rows"] (spPickT K) := by
  refine F.ok scPick (fun vs H Q E h => ?_) (fun cdv A outer s H vs Q E hr h => ?_)
  · obtain ⟨l, s, r, xs, rfl, _⟩ := h
    rfl
  · obtain ⟨l, p, r, xs, rfl, hst, hr1, h0, h1, q⟩ := h
    refine ⟨_, pss_one (ps_ret (pe_ix ix_tup (pv 1) (pe_call GN (hr.mono (by decide)) (by rfl) gN FN.kp bN .nil pass0 (pa_cons (pv 0) (pa_cons (pe_callB call_len_seq (by rfl) ml PySem.boot_len (pa_cons (pv 1) pa_nil)) pa_nil))) (fun _ _ => rfl))), ?_⟩
    refine ⟨_, rfl, _, rfl, _, rfl, r, xs, rfl, .inr hr1, l, p, _, rfl, hst, by omega, by omega, fun d H' d0 d1 kp st => ?_⟩
    have hd : d.toNat < xs.length := by omega
    obtain ⟨_, _, _, _, _, _, hp, _⟩ := hst
    exact ⟨r, xs, d, xs[d.toNat], rfl, rfl, kp.tup hp hr1, at_of (by omega) (List.getElem?_eq_getElem hd), q _ _ _ (List.getElem?_eq_getElem hd) kp st⟩
theorem ok_string {f fn : Addr} {fd fdn : FuncData} (F : Fun K "_law_string" "_law_string" sString f fd) (FN : Fun K "_law_next" "_law_next" sNext fn fdn) (GN : FnOk P w K mg base CX0 1 fn fdn ["stream", "many"] spNext) (bN : Binds K fdn ["stream", "many"] [])
    (gN : mg "_law_next" = some (.ref fn)) (mr : mg "range" = none) : FnOk P w K mg base CX0 2 f fd ["stream", "least", "most", "letters"] spString := by
  refine F.ok scString (fun vs H Q E h => ?_) (fun cdv A outer s H vs Q E hr h => ?_)
  · obtain ⟨l, s, lo, hi, m, rfl, _⟩ := h
    rfl
  · obtain ⟨l, p, lo, hi, m, rfl, hst, h0, h1, h2, h3, h4, q⟩ := h
    refine ⟨_, pss_one (ps_ret (pe_join pe_str (pe_lc (own := [("k", 4)]) (g := gName 4) (tt := tYes) rfl scString.nd
      (pi_range1 rfl mr (pa_cons (pe_op op_add (pv 1) (pe_call GN (hr.mono (by decide)) (by rfl) gN FN.kp bN .nil pass0 (pa_cons (pv 0) (pa_cons (pe_op op_add (pe_op op_sub (pv 2) (pv 1)) pe_int) pa_nil)))) pa_nil))
      (blkOk_by (own := [("k", 4)]) (N := ["stream", "least", "most", "letters", "k"]) (sc := defScope sString) (by decide +kernel))
      (fun _ _ _ _ _ => pg_name (i := 4) scString.nd rfl (Or.inl rfl)) (fun _ _ _ _ _ => pts_nil)
      (fun _ _ _ _ _ => pe_ix ix_str pe_str (pe_call GN (hr.mono (by decide)) (by rfl) gN FN.kp bN .nil pass0 (pa_cons (pv 0) (pa_cons (pv 3) pa_nil))) (fun _ _ => rfl))))), ?_⟩
    refine ⟨⟨_, rfl⟩, _, rfl, _, rfl, _, rfl, _, rfl, hi, lo, rfl, rfl, _, _, rfl, rfl, l, p, _, rfl, hst, by omega, by omega, fun d H1 d0 d1 kp st => ?_⟩
    refine ⟨lo, d, rfl, rfl, _, rfl, by omega, by omega, fun D hD => ?_⟩
    have nD := st.ne hD
    refine lc_range (lo := 0) (n := (lo + d).toNat) (fun i H' => Keep p H H' ∧ Strm l H' p ∧ ∃ ys : List Str, H' D = some (.lst (ys.map V.str)) ∧ ys.length = i ∧ ∀ y ∈ ys, ∃ c : Nat, y = ⟨#[c]⟩ ∧ 97 ≤ c ∧ (c : Int) < 97 + m)
      ⟨kp.new hD, st.new hD, [], upd_same, rfl, fun y hy => by simp at hy⟩ (fun i H' hi hP => ?_) (fun H' hP => ?_)
    · obtain ⟨k2, st2, ys, hys, hl, hc⟩ := hP
      refine ⟨rfl, tYes_ok ⟨_, rfl, _, rfl, l, p, m, rfl, st2, h3, by omega, fun e H2 e0 e1 kp3 st3 => ?_⟩⟩
      obtain ⟨c, hc1, hc2, hc3⟩ := abc_at e0 e1 h4
      refine ⟨_, e, c, rfl, rfl, (by decide +kernel), hc1, _, kp3 _ _ nD.1 hys, ?_, ?_, st3.put nD.1 nD.2, ys ++ [⟨#[c]⟩], ?_, by rw [List.length_append, hl]; rfl, fun y hy => ?_⟩
      · rw [List.length_map, hl, sizeLine_eq]
        omega
      · intro b u nb hb
        have nbD : b ≠ D := by
          intro z
          rw [z] at hb nb
          have : H1 D = some u := kp _ _ nb hb
          rw [hD] at this
          cases this
        rw [upd_ne nbD]
        exact kp3 _ _ nb (k2 _ _ nb hb)
      · rw [upd_same, List.map_append]
        rfl
      · rcases List.mem_append.mp hy with hy | hy
        · exact hc y hy
        · rw [List.mem_singleton.mp hy]
          exact ⟨c, rfl, hc2, hc3⟩
    · obtain ⟨k2, st2, ys, hys, hl, hc⟩ := hP
      obtain ⟨g1, g2⟩ := lets_join hc
      have es : (ys.map (·.length)).sum = ys.length := by
        clear hys hl g1 g2
        induction ys with
        | nil => rfl
        | cons y ys ih =>
          obtain ⟨c, rfl, _⟩ := hc y List.mem_cons_self
          rw [List.map_cons, List.sum_cons, ih fun z hz => hc z (List.mem_cons_of_mem _ hz), List.length_cons, Nat.add_comm]
          rfl
      refine ⟨_, D, ys, rfl, rfl, .inl (SqL.of hys), ?_, q _ _ k2 st2 g1 (by rw [g2, hl]; omega) (by rw [g2, hl]; omega)⟩
      rw [es, hl, show ("" : Str).length = 0 from rfl]
      omega
theorem inV_str (z : Str) (ws : List Str) : inV (.str z) (ws.map V.str) = decide (z ∈ ws) := by
  unfold inV
  rw [List.any_map]
  by_cases h : z ∈ ws
  · rw [decide_eq_true h, List.any_eq_true]
    exact ⟨z, h, beq_self_eq_true z⟩
  · rw [decide_eq_false h, List.any_eq_false]
    intro y hy e
    have e' : (y == z) = true := e
    rw [beq_iff_eq.mp e'] at hy
    exact h hy
theorem ok_code {f fn fp fs : Addr} {fd fdn fdp fds : FuncData} (F : Fun K "_law_code" "_law_code" sCode f fd) (FN : Fun K "_law_next" "_law_next" sNext fn fdn) (GN : FnOk P w K mg base CX0 1 fn fdn ["stream", "many"] spNext) (bN : Binds K fdn ["stream", "many"] []) (gN : mg "_law_next" = some (.ref fn))
    (FP : Fun K "_law_pick" "_law_pick" sPick fp fdp) (GP : FnOk P w K mg base CX0 2 fp fdp ["stream", "rows"] spPick) (bP : Binds K fdp ["stream", "rows"] []) (gP : mg "_law_pick" = some (.ref fp))
    (FS : Fun K "_law_string" "_law_string" sString fs fds) (GS : FnOk P w K mg base CX0 2 fs fds ["stream", "least", "most", "letters"] spString) (bS : Binds K fds ["stream", "least", "most", "letters"] []) (gS : mg "_law_string" = some (.ref fs))
    (mr : mg "range" = none) (mt : mg "tuple" = none) : FnOk P w K mg base CX0 4 f fd ["stream", "many", "most"] spCode := by
  refine F.ok scCode (fun vs H Q E h => ?_) (fun cdv A outer s H vs Q E hr h => ?_)
  · obtain ⟨l, s, many, most, rfl, _⟩ := h
    rfl
  · obtain ⟨l, p, many, most, rfl, hst, h0, h1, h2, h3, q⟩ := h
    have hr1 : Room 1 _ := hr.mono (by decide)
    refine ⟨_, pss_cons (ps_set (i := 3) scCode.nd rfl (.inl rfl) (pe_call GP (hr.mono (by decide)) (by rfl) gP FP.kp bP .nil pass0 (pa_cons (pv 0) (pa_cons (pe_lst (pa_cons pe_int (pa_cons pe_int (pa_cons pe_int (pa_cons pe_int pa_nil))))) pa_nil))))
      (pss_cons (ps_set (i := 4) scCode.nd rfl (.inl rfl) (pe_lst pa_nil))
      (pss_cons (ps_for PassesOwn.never rfl (pi_range1 rfl mr (pa_cons (pe_call GN hr1 (by rfl) gN FN.kp bN .nil pass0 (pa_cons (pv 0) (pa_cons (pe_op op_add (pv 1) pe_int) pa_nil))) pa_nil)) (pg_name (i := 5) scCode.nd rfl (.inl rfl))
        (pss_cons (ps_set (i := 6) scCode.nd rfl (.inl rfl) (pe_call GS (hr.mono (by decide)) (by rfl) gS FS.kp bS .nil pass0 (pa_cons (pv 0) (pa_cons pe_int (pa_cons (pv 2) (pa_cons (pv 3) pa_nil))))))
        (pss_one (ps_expr (pe_bm PySem.F.plainAttrs_list PySem.F.slot_list_extend PySem.F.type_list_extend mt_extend (pv 4)
          (pa_cons (pe_ifExp (pt_cmpR op_notIn_seq (pv 6) (pv 4) (by rfl)) (pe_lst (pa_cons (pv 6) pa_nil)) (pe_lst pa_nil)) pa_nil))))))
      (pss_one (ps_ret (pe_callTy call_tuple_of (by rfl) mt (by decide +kernel) (pa_cons (pv 4) pa_nil)))))), ?_⟩
    refine ⟨_, rfl, (by show 4 ≤ sizeLine; decide), fun r nr => ?_⟩
    have ner := hst.ne nr
    refine ⟨l, p, r, _, rfl, hst.new nr, upd_same, ner.1, (by show 0 < 4; decide), (by show 4 ≤ 1000; decide), fun i x H1 hx kp st => ?_⟩
    have kp1 : Keep p H H1 := fun b u nb hb => kp _ _ nb (by rw [upd_ne (ne_of_none hb nr)]; exact hb)
    obtain ⟨m, rfl, hm0, hm3⟩ : ∃ m : Int, x = .int m ∧ 0 < m ∧ m ≤ 3 := by
      match i, hx with
      | 0, hx => exact ⟨2, (Option.some.inj hx).symm, by decide, by decide⟩
      | 1, hx => exact ⟨2, (Option.some.inj hx).symm, by decide, by decide⟩
      | 2, hx => exact ⟨3, (Option.some.inj hx).symm, by decide, by decide⟩
      | 3, hx => exact ⟨1, (Option.some.inj hx).symm, by decide, by decide⟩
    refine ⟨Nat.zero_le _, fun W hW => ?_⟩
    have nW := st.ne hW
    have hW0 : H W = none := by
      cases e : H W with
      | none => rfl
      | some u =>
        have := kp1 _ _ nW.1 e
        rw [hW] at this
        cases this
    refine ⟨_, rfl, _, rfl, _, 1, rfl, rfl, l, p, _, rfl, st.new hW, by omega, by omega, fun d H2 d0 d1 kp2 st2 => ?_⟩
    refine ⟨d, rfl, by omega, by omega, ?_⟩
    refine for_range (lo := 0) (n := d.toNat) (fun i σ H' => ∃ (ws : List Str) (y5 y6 : Option V), σ = [some (.ref p), some (.int many), some (.int most), some (.int m), some (.ref W), y5, y6] ∧ Keep p H H' ∧ Strm l H' p ∧ H' W = some (.lst (ws.map V.str)) ∧ ws.Nodup ∧ ws.length ≤ i ∧
      ∀ z ∈ ws, Lets 3 z ∧ 1 ≤ z.length ∧ (z.length : Int) ≤ most) ⟨[], none, none, rfl, ?_, st2, kp2 _ _ nW.1 upd_same, List.nodup_nil, Nat.le_refl _, fun z hz => by simp at hz⟩ (fun i σ H' hi hP => ?_) (fun σ H' hP => ?_)
    · intro b u nb hb
      exact kp2 _ _ nb (by rw [upd_ne (ne_of_none hb hW0)]; exact kp1 _ _ nb hb)
    · obtain ⟨ws, y5, y6, rfl, kp3, st3, hws, nd, hle, hz⟩ := hP
      refine ⟨_, rfl, _, rfl, _, rfl, l, p, 1, most, m, rfl, st3, by omega, h2, by omega, hm0, hm3, fun z H3 kp4 st4 hl4 hlo hhi => ?_⟩
      have hws3 := kp4 _ _ nW.1 hws
      have h64 : ws.length < 1000 := by omega
      refine ⟨_, rfl, .inl ⟨rfl, _, SqL.of hws3⟩, _, rfl, _, rfl, W, _, rfl, .inl (SqL.of hws3), rfl, flat_strs ws, _, rfl, ?_⟩
      have kpH : Keep p H H3 := kp3.trans kp4
      rw [if_pos rfl, inV_str]
      by_cases hin : z ∈ ws
      · rw [decide_eq_true hin]
        refine iteF ⟨Nat.zero_le _, fun g hg => ?_⟩
        have nWg : W ≠ g := ne_of_none hws3 hg
        refine ⟨W, g, _, [], rfl, rfl, by rw [upd_ne nWg]; exact hws3, upd_same, ?_, ws, _, _, rfl, (kpH.new hg).put' hW0, (st4.new hg).put nW.1 nW.2, by rw [upd_same, List.append_nil], nd, by omega, hz⟩
        rw [List.length_map, sizeLine_eq]
        show ws.length + 0 ≤ _
        omega
      · rw [decide_eq_false hin]
        refine iteT ⟨_, rfl, (by show 1 ≤ sizeLine; decide), fun g hg => ?_⟩
        have nWg : W ≠ g := ne_of_none hws3 hg
        refine ⟨W, g, _, _, rfl, rfl, by rw [upd_ne nWg]; exact hws3, upd_same, ?_, ws ++ [z], _, _, rfl, (kpH.new hg).put' hW0, (st4.new hg).put nW.1 nW.2, by rw [upd_same, List.map_append] <;> rfl, nodup_snoc.mpr ⟨nd, hin⟩, ?_, fun y hy => ?_⟩
        · rw [List.length_map, sizeLine_eq]
          show ws.length + 1 ≤ _
          omega
        · rw [List.length_append]
          show ws.length + 1 ≤ i + 1
          omega
        · rcases List.mem_append.mp hy with hy | hy
          · exact hz y hy
          · rw [List.mem_singleton.mp hy]
            refine ⟨fun c hc => ?_, by omega, hhi⟩
            have := hl4 c hc
            omega
    · obtain ⟨ws, y5, y6, rfl, kp3, st3, hws, nd, hle, hz⟩ := hP
      refine ⟨_, rfl, W, _, rfl, .inl ⟨SqL.of hws, fun c hc => ?_⟩⟩
      have hc0 : H c = none := by
        have nc := st3.ne hc
        cases e : H c with
        | none => rfl
        | some u =>
          have := kp3 _ _ nc.1 e
          rw [hc] at this
          cases this
      exact q c ws _ (kp3.new hc) (st3.new hc) hc0 upd_same nd (by omega) hz
end
end Sy
/-! Syncedwords, part 4: what a code and a string are, as the program tells. -/
namespace Sy
open PySem PySem.Spec PyProof.Rows L2
open C8 (pss_cut tCut)
abbrev sHas : Stmt := topS 10
abbrev sIsCode : Stmt := topS 12
abbrev sWords : Stmt := topS 11
abbrev sIsString : Stmt := topS 13
theorem scHas : FnScope ["value", "least", "most", "letter"] ["value", "least", "most"] (defScope sHas) := ⟨rfl, rfl, rfl, by decide +kernel, rfl, by decide +kernel, by decide +kernel⟩
theorem scWords : FnScope ["value", "many", "letters", "word"] ["value", "many", "letters"] (defScope sWords) := ⟨rfl, rfl, rfl, by decide +kernel, rfl, by decide +kernel, by decide +kernel⟩
theorem scIsCode : FnScope ["value"] ["value"] (defScope sIsCode) := ⟨rfl, rfl, rfl, by decide +kernel, rfl, by decide +kernel, by decide +kernel⟩
theorem scIsString : FnScope ["value"] ["value"] (defScope sIsString) := ⟨rfl, rfl, rfl, by decide +kernel, rfl, by decide +kernel, by decide +kernel⟩

/-! ### kinds of values -/
theorem TyX.same {K : PySem.W.Frag} {H H' : Hp} {x : V} {t : Value} (k : Same H H') (h : TyX K H x t) : TyX K H' x t := by
  cases h with
  | base b =>
    refine .base ?_
    cases b with
    | non => exact .non
    | bl y => exact .bl y
    | int i => exact .int i
    | str y => exact .str y
    | flt y => exact .flt y
    | lst e => exact .lst (k _ _ e)
    | frz e => exact .frz (k _ _ e)
    | tup e => exact .tup (k _ _ e)
    | dK e => exact .dK (k _ _ e)
    | dT e => exact .dT (k _ _ e)
    | ins e cl ha hn htk hm => exact .ins (k _ _ e) cl ha hn htk hm
  | byt b => exact .byt b
  | set e => exact .set (k _ _ e)
  | kList e c => exact .kList e c
  | kTuple e c => exact .kTuple e c
  | kDict e c => exact .kDict e c
  | fTuple e => exact .fTuple (k _ _ e)
  | fDict e => exact .fDict (k _ _ e)
theorem ty_tup {K : PySem.W.Frag} {H : Hp} {a : Addr} {xs : List V} (h : SqT K H a xs) : TyX K H (.ref a) (.type "tuple") := by
  rcases h with (h | ⟨o, h⟩) | ⟨o, its, n, h1, h2, _⟩
  · exact .base (.tup h)
  · exact .fTuple h
  · exact .kTuple h1 h2
theorem ty_lst {K : PySem.W.Frag} {H : Hp} {a : Addr} {xs : List V} (h : SqL K H a xs) : TyX K H (.ref a) (.type "list") := by
  rcases h with (h | ⟨o, h⟩) | ⟨o, its, n, h1, h2, _⟩
  · exact .base (.lst h)
  · exact .base (.frz h)
  · exact .kList h1 h2
theorem isi_ok {K : PySem.W.Frag} {H : Hp} {x : V} {t T : String} {b : Bool} {Q : VK} (ty : TyX K H x (.type t)) (k : kitB t T = some b) (q : Q (.bl b) H) : rIsi K [x, .ty T] H Q := ⟨x, .ty T, .type t, .type T, b, rfl, .ty T, ty, kit_ty k, q⟩

/-! ### what they ask, in plain words -/
/-- a letter of the three -/
def abc (c : Nat) : Bool := decide (c ∈ ("abc" : Str).cps.toList)
/-- so many letters, all of the three -/
def okTxt (z : Str) (lo hi : Int) : Bool := decide (lo ≤ z.length) && decide ((z.length : Int) ≤ hi) && (TL.tl z).all abc
def wordB : V → Bool
  | .str z => okTxt z 1 5
  | _ => false
def txtOf : V → Str
  | .str z => z
  | _ => ""
def codeB (xs : List V) : Bool := decide (xs.length ≤ 6) && xs.all wordB && decide ((met (xs.map txtOf)).length = xs.length)
/-- a text, or a value of a known kind that is none -/
def Wd (K : PySem.W.Frag) (H : Hp) (v : V) : Prop := (∃ z, v = .str z ∧ z.length ≤ 1000) ∨ (∃ t, TyX K H v (.type t) ∧ kitB t "str" = some false)
theorem Wd.same {K : PySem.W.Frag} {H H' : Hp} {v : V} (k : Same H H') (h : Wd K H v) : Wd K H' v := by
  rcases h with h | ⟨t, h, e⟩
  · exact .inl h
  · exact .inr ⟨t, TyX.same k h, e⟩
theorem wd_ty {K : PySem.W.Frag} {H : Hp} {v : V} {t : String} (h : TyX K H v (.type t)) (e : kitB t "str" = some false) : wordB v = false := by
  cases v with
  | str z =>
    cases h with
    | base b =>
      cases b
      have : kitB "str" "str" = some true := by decide +kernel
      rw [this] at e
      cases e
  | _ => rfl
def spHas (K : PySem.W.Frag) : Sp := fun vs H Q _ => ∃ (x : V) (lo hi : Int), vs = [x, .int lo, .int hi] ∧ ((∃ z, x = .str z ∧ z.length ≤ 1000 ∧ ∀ H', Same H H' → Q (.bl (okTxt z lo hi)) H') ∨ (∃ t, TyX K H x (.type t) ∧ kitB t "str" = some false ∧ Q (.bl false) H))
def spIsCode (K : PySem.W.Frag) : Sp := fun vs H Q _ => ∃ (x : V), vs = [x] ∧ ((∃ t, TyX K H x (.type t) ∧ kitB t "tuple" = some false ∧ Q (.bl false) H) ∨
  (∃ a xs, x = .ref a ∧ SqT K H a xs ∧ xs.length ≤ 1000 ∧ (∀ v ∈ xs, Wd K H v) ∧ ∀ H', Same H H' → Q (.bl (codeB xs)) H'))
def spWords (K : PySem.W.Frag) : Sp := fun vs H Q E => ∃ (x : V), vs = [x, .int 6, .int 5] ∧ spIsCode K [x] H Q E
def spIsString (K : PySem.W.Frag) : Sp := fun vs H Q _ => ∃ (x : V), vs = [x] ∧ ((∃ z, x = .str z ∧ z.length ≤ 1000 ∧ ∀ H', Same H H' → Q (.bl (okTxt z 0 24)) H') ∨ (∃ t, TyX K H x (.type t) ∧ kitB t "str" = some false ∧ Q (.bl false) H))

theorem Same.put' {p : Addr} {o : HO} {H H1 : Hp} (k : Same H H1) (n : H p = none) : Same H (upd H1 p o) := fun b u e => by
  rw [upd_ne (ne_of_none e n)]
  exact k b u e
theorem bl_all (bs : List Bool) {α : Type} (xs : List α) (f : α → Bool) (h : bs = xs.map f) : bs.all id = xs.all f := by
  rw [h, List.all_map]
  rfl
section
variable {P : Program} {w : World} {K : PySem.W.Frag} {mg : Str → Option Value} {base : Heap}
theorem ok_has {f : Addr} {fd : FuncData} {tL : Tok} (F : Fun K "has_letters" "has_letters" sHas f fd) (gL : mg "LETTERS" = some (.str "abc" tL)) (mi : mg "isinstance" = none) (ms : mg "str" = none) (ml : mg "len" = none) (ma : mg "all" = none) :
    FnOk P w K mg base CX0 1 f fd ["value", "least", "most"] (spHas K) := by
  refine F.ok scHas (fun vs H Q E h => ?_) (fun cdv A outer s H vs Q E hr h => ?_)
  · obtain ⟨x, lo, hi, rfl, _⟩ := h
    rfl
  · obtain ⟨x, lo, hi, rfl, h⟩ := h
    refine ⟨_, pss_cons (ps_if (PW.pt (pw_or (pt_not (pt_val (pe_callB call_isi (by rfl) mi (by decide +kernel) (pa_cons (pv 0) (pa_cons (pe_bltn (v := .ty "str") (by rfl) ms (by decide +kernel) rfl) pa_nil)))))
          (pw_or1 (pt_not (pt_chain op_le op_le (pv 1) (pe_callB call_len_str (by rfl) ml PySem.boot_len (pa_cons (pv 0) pa_nil)) (pv 2))))))
        (pss_one (ps_ret pe_bl)) pss_nil)
      (pss_one (ps_ret (pe_callB (cr_all rfl) (by rfl) ma (by decide +kernel) (pa_cons (pe_lc (own := [("letter", 3)]) (g := gName 3) (tt := tYes) rfl scHas.nd (pi_str (pv 0))
        (blkOk_by (own := [("letter", 3)]) (N := ["value", "least", "most", "letter"]) (sc := defScope sHas) (by decide +kernel))
        (fun _ _ _ _ _ => pg_name (i := 3) scHas.nd rfl (Or.inl rfl)) (fun _ _ _ _ _ => pts_nil)
        (fun _ _ _ _ _ => pe_cmpR op_in_sign (pv 3) (pe_glob (v := .str "abc") rfl gL ⟨_, rfl⟩) rfl)) pa_nil)))), ?_⟩
    rcases h with ⟨z, rfl, hz, q⟩ | ⟨t, ty, kt, q⟩
    · refine ⟨_, rfl, _, _, _, _, true, rfl, .ty "str", .base (.str z), kit_ty (by decide +kernel), true, rfl, ?_⟩
      refine iteF ⟨_, rfl, _, rfl, z, rfl, by rw [sizeLine_eq]; omega, _, _, rfl, rfl, _, rfl, ite2 (fun e1 => ?_) (fun e1 => ?_)⟩
      · have g1 := of_decide_eq_true e1
        refine ⟨_, rfl, _, _, rfl, rfl, _, rfl, ?_⟩
        by_cases g2 : (z.length : Int) ≤ hi
        · rw [decide_eq_true g2]
          refine iteF ?_
          -- all([..])
          refine ⟨_, rfl, z, rfl, fun D hD => ?_⟩
          refine lc_it walk_str (fun i H' => Same H H' ∧ H' D = some (.lst (((TL.tl z).take i).map fun c => V.bl (abc c)))) ⟨Same.new (Same.refl H) hD, by rw [upd_same]; rfl⟩ (fun _ _ _ _ => trivial) (fun i y H1 H' hi hP hy => ?_) (fun H' hP => ?_)
          · obtain ⟨sm, hl⟩ := hP
            obtain ⟨rfl, c, hc, rfl⟩ := hy
            refine ⟨rfl, tYes_ok ⟨_, rfl, c, _, rfl, rfl, _, hl, ?_, Same.put' sm hD, ?_⟩⟩
            · have hlen := TL.len_tl z
              rw [List.length_map, List.length_take, sizeLine_eq]
              omega
            · have hc' : (TL.tl z)[i]? = some c := by
                rw [Array.getElem?_toList]
                exact hc
              rw [upd_same, List.take_add_one, hc', List.map_append]
              rfl
          · obtain ⟨sm, hl⟩ := hP
            rw [show (TL.tl z).take z.cps.size = TL.tl z from List.take_of_length_le (by simp)] at hl
            refine ⟨D, (TL.tl z).map abc, rfl, SqL.of (by rw [List.map_map]; exact hl), ?_⟩
            have e : okTxt z lo hi = ((TL.tl z).map abc).all id := by
              unfold okTxt
              rw [decide_eq_true g1, decide_eq_true g2, List.all_map]
              rfl
            rw [← e]
            exact q _ sm
        · rw [decide_eq_false g2]
          refine iteT ?_
          have e : okTxt z lo hi = false := by
            unfold okTxt
            rw [decide_eq_false g2, Bool.and_false, Bool.false_and]
          have := q H (Same.refl H)
          rw [e] at this
          exact this
      · have e : okTxt z lo hi = false := by
          unfold okTxt
          rw [show decide (lo ≤ (z.length : Int)) = false from by simpa using e1, Bool.false_and, Bool.false_and]
        refine ⟨_, rfl, iteT ?_⟩
        have := q H (Same.refl H)
        rw [e] at this
        exact this
    · exact ⟨_, rfl, _, _, _, _, false, rfl, .ty "str", ty, kit_ty kt, false, rfl, iteT (iteT q)⟩
theorem ok_words {f fh : Addr} {fd fdh : FuncData} (F : Fun K "are_words" "are_words" sWords f fd) (FH : Fun K "has_letters" "has_letters" sHas fh fdh) (GH : FnOk P w K mg base CX0 1 fh fdh ["value", "least", "most"] (spHas K)) (bH : Binds K fdh ["value", "least", "most"] [])
    (gH : mg "has_letters" = some (.ref fh)) (mi : mg "isinstance" = none) (mt : mg "tuple" = none) (ml : mg "len" = none) (ma : mg "all" = none) (ms : mg "set" = none) :
    FnOk P w K mg base CX0 2 f fd ["value", "many", "letters"] (spWords K) := by
  refine F.ok scWords (fun vs H Q E h => ?_) (fun cdv A outer s H vs Q E hr h => ?_)
  · obtain ⟨y, rfl, x, e, _⟩ := h
    rfl
  · obtain ⟨x, rfl, y, e, h⟩ := h
    cases e
    refine ⟨_, pss_cons (ps_if (PW.pt (pw_or (pt_not (pt_val (pe_callB call_isi (by rfl) mi (by decide +kernel) (pa_cons (pv 0) (pa_cons (pe_bltn (v := .ty "tuple") (by rfl) mt (by decide +kernel) rfl) pa_nil)))))
          (pw_or1 (pt_cmpR op_gt (pe_callB call_len_seq (by rfl) ml PySem.boot_len (pa_cons (pv 0) pa_nil)) (pv 1) (nomark _)))))
        (pss_one (ps_ret pe_bl)) pss_nil)
      (pss_cons (ps_if (pt_not (pt_val (pe_callB (cr_all rfl) (by rfl) ma (by decide +kernel) (pa_cons (pe_lc (own := [("word", 3)]) (g := gName 3) (tt := tYes) rfl scWords.nd (pi_tup (pv 0))
        (blkOk_by (own := [("word", 3)]) (N := ["value", "many", "letters", "word"]) (sc := defScope sWords) (by decide +kernel))
        (fun _ _ _ _ _ => pg_name (i := 3) scWords.nd rfl (Or.inl rfl)) (fun _ _ _ _ _ => pts_nil)
        (fun _ _ _ _ _ => pe_call GH (hr.mono (by decide)) (by rfl) gH FH.kp bH .nil pass0 (pa_cons (pv 3) (pa_cons pe_int (pa_cons (pv 2) pa_nil))))) pa_nil))))
        (pss_one (ps_ret pe_bl)) pss_nil)
      (pss_one (ps_ret (pe_cmpR op_eq (pe_lenTxt rfl (by rfl) ml (by rfl) ms (pv 0)) (pe_callB call_len_seq (by rfl) ml PySem.boot_len (pa_cons (pv 0) pa_nil)) (nomark _))))), ?_⟩
    rcases h with ⟨t, ty, kt, q⟩ | ⟨a, xs, rfl, hT, hle, hw, q⟩
    · exact ⟨_, rfl, _, _, _, _, false, rfl, .ty "tuple", ty, kit_ty kt, false, rfl, iteT (iteT q)⟩
    · refine ⟨_, rfl, _, _, _, _, true, rfl, .ty "tuple", ty_tup hT, kit_ty (by decide +kernel), true, rfl, iteF ⟨_, rfl, a, xs, rfl, .inr hT, _, rfl, _, _, rfl, rfl, _, rfl, ?_⟩⟩
      by_cases h6 : (6 : Int) < xs.length
      · rw [decide_eq_true h6]
        have e : codeB xs = false := by
          unfold codeB
          rw [decide_eq_false (show ¬ xs.length ≤ 6 by omega), Bool.false_and, Bool.false_and]
        have := q H (Same.refl H)
        rw [e] at this
        exact iteT this
      · rw [decide_eq_false h6]
        refine iteF ?_
        refine ⟨_, rfl, a, rfl, ⟨xs, hT⟩, fun D hD => ?_⟩
        refine lc_tup (xs := xs) (fun i H' => Same H H' ∧ H' D = some (.lst ((xs.take i).map fun v => V.bl (wordB v)))) ⟨Same.new (Same.refl H) hD, by rw [upd_same]; rfl⟩ (fun i H' _ hP => Same.tup hP.1 hT) (fun i x H1 hx hP => ?_) (fun H' hP => ?_)
        · obtain ⟨sm, hl⟩ := hP
          have hxm : x ∈ xs := List.mem_of_getElem? hx
          have fin : ∀ H', Same H1 H' → ∃ acc, H' D = some (.lst acc) ∧ acc.length < sizeLine ∧ Same H (upd H' D (.lst (acc ++ [.bl (wordB x)]))) ∧ (upd H' D (.lst (acc ++ [.bl (wordB x)]))) D = some (.lst ((xs.take (i + 1)).map fun v => V.bl (wordB v))) := fun H' s2 => by
            refine ⟨_, s2 _ _ hl, ?_, Same.put' (sm.trans s2) hD, ?_⟩
            · rw [List.length_map, List.length_take, sizeLine_eq]
              omega
            · rw [upd_same, List.take_add_one, hx, List.map_append]
              rfl
          rcases hw x hxm with ⟨z, rfl, hz⟩ | ⟨t, ty, kt⟩
          · exact ⟨rfl, tYes_ok ⟨_, rfl, _, rfl, _, 1, 5, rfl, .inl ⟨z, rfl, hz, fin⟩⟩⟩
          · refine ⟨rfl, tYes_ok ⟨_, rfl, _, rfl, _, 1, 5, rfl, .inr ⟨t, TyX.same sm ty, kt, ?_⟩⟩⟩
            have := fin H1 (Same.refl H1)
            rw [wd_ty ty kt] at this
            exact this
        · obtain ⟨sm, hl⟩ := hP
          rw [List.take_length] at hl
          refine ⟨D, xs.map wordB, rfl, SqL.of (by rw [List.map_map]; exact hl), _, rfl, ?_⟩
          have ea : (xs.map wordB).all id = xs.all wordB := by
            rw [List.all_map]
            rfl
          rw [ea]
          cases hb : xs.all wordB with
          | false =>
            have e : codeB xs = false := by
              unfold codeB
              rw [hb, Bool.and_false, Bool.false_and]
            have := q H' sm
            rw [e] at this
            exact iteT this
          | true =>
            have es : xs = (xs.map txtOf).map V.str := by
              rw [List.map_map]
              have hall := List.all_eq_true.mp hb
              clear hT hle hw q h6 hl hb ea hD
              induction xs with
              | nil => rfl
              | cons v xs ih =>
                rw [List.map_cons, ← ih fun y hy => hall y (List.mem_cons_of_mem _ hy)]
                have hv := hall v List.mem_cons_self
                cases v with
                | str z => rfl
                | _ => cases hv
            refine iteF ⟨_, rfl, a, xs.map txtOf, rfl, by rw [← es]; exact Same.tup sm hT, by rw [List.length_map]; exact hle, _, rfl, a, xs, rfl, .inr (Same.tup sm hT), rfl, ?_⟩
            have e : codeB xs = decide (V.int ((met (xs.map txtOf)).length : Nat) = V.int xs.length) := by
              unfold codeB
              rw [hb, decide_eq_true (show xs.length ≤ 6 by omega), Bool.true_and, Bool.true_and]
              by_cases h : (met (xs.map txtOf)).length = xs.length
              · rw [decide_eq_true h, h, decide_eq_true rfl]
              · rw [decide_eq_false h, decide_eq_false]
                intro z
                injection z with z
                omega
            rw [← e]
            exact q H' sm
theorem ok_iscode {f fw : Addr} {fd fdw : FuncData} {t6 t5 : Tok} (F : Fun K "is_code" "is_code" sIsCode f fd) (GW : FnOk P w K mg base CX0 2 fw fdw ["value", "many", "letters"] (spWords K)) (kW : PySem.W.keepIn K (.ref fw) = true) (bW : Binds K fdw ["value", "many", "letters"] [])
    (gW : mg "are_words" = some (.ref fw)) (g6 : mg "MOST_WORDS" = some (.int 6 t6)) (g5 : mg "MOST_WORD_LETTERS" = some (.int 5 t5)) : FnOk P w K mg base CX0 3 f fd ["value"] (spIsCode K) := by
  refine F.ok scIsCode (fun vs H Q E h => ?_) (fun cdv A outer s H vs Q E hr h => ?_)
  · obtain ⟨x, rfl, _⟩ := h
    rfl
  · obtain ⟨x, rfl, h⟩ := h
    exact ⟨_, pss_one (ps_ret (pe_call GW (hr.mono (by decide)) (by rfl) gW kW bW .nil pass0 (pa_cons (pv 0) (pa_cons (pe_glob (v := .int 6) rfl g6 ⟨_, rfl⟩) (pa_cons (pe_glob (v := .int 5) rfl g5 ⟨_, rfl⟩) pa_nil))))), _, rfl, x, rfl, _, rfl, h⟩
theorem ok_isstring {f fh : Addr} {fd fdh : FuncData} {t24 : Tok} (F : Fun K "is_string" "is_string" sIsString f fd) (FH : Fun K "has_letters" "has_letters" sHas fh fdh) (GH : FnOk P w K mg base CX0 1 fh fdh ["value", "least", "most"] (spHas K)) (bH : Binds K fdh ["value", "least", "most"] [])
    (gH : mg "has_letters" = some (.ref fh)) (g24 : mg "MOST_STRING_LETTERS" = some (.int 24 t24)) : FnOk P w K mg base CX0 3 f fd ["value"] (spIsString K) := by
  refine F.ok scIsString (fun vs H Q E h => ?_) (fun cdv A outer s H vs Q E hr h => ?_)
  · obtain ⟨x, rfl, _⟩ := h
    rfl
  · obtain ⟨x, rfl, h⟩ := h
    refine ⟨_, pss_one (ps_ret (pe_call GH (hr.mono (by decide)) (by rfl) gH FH.kp bH .nil pass0 (pa_cons (pv 0) (pa_cons pe_int (pa_cons (pe_glob (v := .int 24) rfl g24 ⟨_, rfl⟩) pa_nil))))), ?_⟩
    exact ⟨_, rfl, x, 0, 24, rfl, h⟩
end
end Sy
/-! Syncedwords, part 5: equal data are found equal. -/
namespace Sy
open PySem PySem.Spec PyProof.Rows L2
open C8 (pss_cut tCut)
abbrev sIsInt : Stmt := topS 38
abbrev sEqual : Stmt := topS 39
theorem scIsInt : FnScope ["actual"] ["actual"] (defScope sIsInt) := ⟨rfl, rfl, rfl, by decide +kernel, rfl, by decide +kernel, by decide +kernel⟩
theorem scEqual : FnScope ["actual", "due", "at"] ["actual", "due"] (defScope sEqual) := ⟨rfl, rfl, rfl, by decide +kernel, rfl, by decide +kernel, by decide +kernel⟩
mutual
theorem Dp.same {K : PySem.W.Frag} {H H' : Hp} (k : Same H H') : ∀ (d : PyData) (v : V), Dp K H v d → Dp K H' v d
  | .none, _, h => by cases h; exact .non
  | .bool b, _, h => by cases h; exact .bl b
  | .int i, _, h => by cases h; exact .int i
  | .str x, _, h => by cases h; exact .str x
  | .list ds, _, h => by
    cases h with
    | lst hs ha => exact .lst (k.seq hs) (Dp.sameAll k ds _ ha)
  | .tuple ds, _, h => by
    cases h with
    | tup hs ha => exact .tup (Same.tup k hs) (Dp.sameAll k ds _ ha)
  | .dict _, _, h => by cases h
theorem Dp.sameAll {K : PySem.W.Frag} {H H' : Hp} (k : Same H H') : ∀ (ds : List PyData) (vs : List V), DpAll K H vs ds → DpAll K H' vs ds
  | [], _, h => by cases h; exact .nil
  | d :: ds, _, h => by
    cases h with
    | cons a b => exact .cons (Dp.same k d _ a) (Dp.sameAll k ds _ b)
end
theorem DpAll.len {K : PySem.W.Frag} {H : Hp} : ∀ {vs : List V} {ds : List PyData}, DpAll K H vs ds → vs.length = ds.length
  | _, _, .nil => rfl
  | _, _, .cons _ b => by rw [List.length_cons, List.length_cons, DpAll.len b]
theorem DpAll.get {K : PySem.W.Frag} {H : Hp} : ∀ {vs : List V} {ds : List PyData} {i : Nat} {d : PyData}, DpAll K H vs ds → ds[i]? = some d → ∃ v, vs[i]? = some v ∧ Dp K H v d
  | _, _, _, _, .nil, h => by simp at h
  | _, _, 0, _, .cons a _, h => by
    cases Option.some.inj h
    exact ⟨_, rfl, a⟩
  | _, _, i + 1, _, .cons _ b, h => DpAll.get (i := i) b h
/-- data of at most n levels, no list longer than a number -/
def okD : Nat → PyData → Prop
  | 0, _ => False
  | n + 1, .list ds => ds.length ≤ 100000 ∧ ∀ d ∈ ds, okD n d
  | n + 1, .tuple ds => ds.length ≤ 100000 ∧ ∀ d ∈ ds, okD n d
  | _ + 1, .dict _ => False
  | _ + 1, _ => True
def spIsInt : Sp := fun vs H Q _ => ∃ i : Int, vs = [.int i] ∧ Q (.bl true) H
def spEqual (K : PySem.W.Frag) (n : Nat) : Sp := fun vs H Q _ => ∃ (x y : V) (d : PyData), vs = [x, y] ∧ Dp K H x d ∧ Dp K H y d ∧ okD n d ∧ ∀ H', Same H H' → Q (.bl true) H'

section
variable {P : Program} {w : World} {K : PySem.W.Frag} {mg : Str → Option Value} {base : Heap}
theorem ok_isint {f : Addr} {fd : FuncData} (F : Fun K "_law_is_integer" "_law_is_integer" sIsInt f fd) (mi : mg "isinstance" = none) (mn : mg "int" = none) (mb : mg "bool" = none) : FnOk P w K mg base CX0 1 f fd ["actual"] spIsInt := by
  refine F.ok scIsInt (fun vs H Q E h => ?_) (fun cdv A outer s H vs Q E hr h => ?_)
  · obtain ⟨i, rfl, _⟩ := h
    rfl
  · obtain ⟨i, rfl, q⟩ := h
    refine ⟨_, pss_one (ps_ret (pe_and (pe_callB call_isi (by rfl) mi (by decide +kernel) (pa_cons (pv 0) (pa_cons (pe_bltn (v := .ty "int") (by rfl) mn (by decide +kernel) rfl) pa_nil)))
      (pe_one (pe_not (pe_callB call_isi (by rfl) mi (by decide +kernel) (pa_cons (pv 0) (pa_cons (pe_bltn (v := .ty "bool") (by rfl) mb (by decide +kernel) rfl) pa_nil))))))), ?_⟩
    exact ⟨_, rfl, _, _, _, _, true, rfl, .ty "int", .base (.int i), kit_ty (by decide +kernel), true, rfl, iteT ⟨_, rfl, _, _, _, _, false, rfl, .ty "bool", .base (.int i), kit_ty (by decide +kernel), false, rfl, q⟩⟩
theorem ok_equal {f fi : Addr} {fd fdi : FuncData} (F : Fun K "_law_equal" "_law_equal" sEqual f fd) (bF : Binds K fd ["actual", "due"] []) (gF : mg "_law_equal" = some (.ref f))
    (FI : Fun K "_law_is_integer" "_law_is_integer" sIsInt fi fdi) (GI : FnOk P w K mg base CX0 1 fi fdi ["actual"] spIsInt) (bI : Binds K fdi ["actual"] []) (gI : mg "_law_is_integer" = some (.ref fi))
    (mi : mg "isinstance" = none) (mb : mg "bool" = none) (mn : mg "int" = none) (ms : mg "str" = none) (mt : mg "tuple" = none) (mL : mg "list" = none) (ml : mg "len" = none) (ma : mg "all" = none) (mr : mg "range" = none) :
    ∀ n, FnOk P w K mg base CX0 (n + 1) f fd ["actual", "due"] (spEqual K n)
  | 0 => ⟨fun vs H Q E h => (let ⟨_, _, _, e, _⟩ := h; by rw [e]; rfl), fun A outer s H args us vs Q E hr e0 hb hv h => (let ⟨_, _, _, _, _, _, z, _⟩ := h; z.elim)⟩
  | n + 1 => by
    have GE := ok_equal F bF gF FI GI bI gI mi mb mn ms mt mL ml ma mr n
    refine F.ok scEqual (fun vs H Q E h => ?_) (fun cdv A outer s H vs Q E hr h => ?_)
    · obtain ⟨x, y, d, rfl, _⟩ := h
      rfl
    · obtain ⟨x, y, d, rfl, hx, hy, hd, q⟩ := h
      have hr1 : Room 1 _ := hr.mono (by omega)
      refine ⟨_, pss_cons (ps_if (pt_cmpR op_isN (pv 1) pe_non (nomark _)) (pss_one (ps_ret (pe_cmpR op_isN (pv 0) pe_non (nomark _)))) pss_nil)
        (pss_cons (ps_if (pt_val (pe_callB call_isi (by rfl) mi (by decide +kernel) (pa_cons (pv 1) (pa_cons (pe_bltn (v := .ty "bool") (by rfl) mb (by decide +kernel) rfl) pa_nil))))
          (pss_one (ps_ret (pe_and (pe_callB call_isi (by rfl) mi (by decide +kernel) (pa_cons (pv 0) (pa_cons (pe_bltn (v := .ty "bool") (by rfl) mb (by decide +kernel) rfl) pa_nil))) (pe_one (pe_cmpR op_eq (pv 0) (pv 1) (nomark _)))))) pss_nil)
        (pss_cons (ps_if (pt_val (pe_callB call_isi (by rfl) mi (by decide +kernel) (pa_cons (pv 1) (pa_cons (pe_bltn (v := .ty "int") (by rfl) mn (by decide +kernel) rfl) pa_nil))))
          (pss_one (ps_ret (pe_and (pe_call GI hr1 (by rfl) gI FI.kp bI .nil pass0 (pa_cons (pv 0) pa_nil)) (pe_one (pe_cmpR op_eq (pv 0) (pv 1) (nomark _)))))) pss_nil)
        (pss_cons (ps_if (pt_val (pe_callB call_isi (by rfl) mi (by decide +kernel) (pa_cons (pv 1) (pa_cons (pe_bltn (v := .ty "str") (by rfl) ms (by decide +kernel) rfl) pa_nil))))
          (pss_one (ps_ret (pe_and (pe_callB call_isi (by rfl) mi (by decide +kernel) (pa_cons (pv 0) (pa_cons (pe_bltn (v := .ty "str") (by rfl) ms (by decide +kernel) rfl) pa_nil))) (pe_one (pe_cmpR op_eq (pv 0) (pv 1) (nomark _)))))) pss_nil)
        (pss_cons (ps_if (PW.pt (pw_and (pt_val (pe_callB call_isi (by rfl) mi (by decide +kernel) (pa_cons (pv 1) (pa_cons (pe_bltn (v := .ty "tuple") (by rfl) mt (by decide +kernel) rfl) pa_nil))))
          (pw_and1 (pt_not (pt_val (pe_callB call_isi (by rfl) mi (by decide +kernel) (pa_cons (pv 0) (pa_cons (pe_bltn (v := .ty "tuple") (by rfl) mt (by decide +kernel) rfl) pa_nil)))))))) pss_never pss_nil)
        (pss_cons (ps_if (PW.pt (pw_and (pt_val (pe_callB call_isi (by rfl) mi (by decide +kernel) (pa_cons (pv 1) (pa_cons (pe_bltn (v := .ty "list") (by rfl) mL (by decide +kernel) rfl) pa_nil))))
          (pw_and1 (pt_not (pt_val (pe_callB call_isi (by rfl) mi (by decide +kernel) (pa_cons (pv 0) (pa_cons (pe_bltn (v := .ty "list") (by rfl) mL (by decide +kernel) rfl) pa_nil)))))))) pss_never pss_nil)
        (pss_cons (ps_if (pt_cmpR op_ne (pe_callB call_len_seq (by rfl) ml PySem.boot_len (pa_cons (pv 0) pa_nil)) (pe_callB call_len_seq (by rfl) ml PySem.boot_len (pa_cons (pv 1) pa_nil)) (nomark _)) pss_never pss_nil)
        (pss_one (ps_ret (pe_callB (cr_all rfl) (by rfl) ma (by decide +kernel) (pa_cons (pe_lc (own := [("at", 2)]) (g := gName 2) (tt := tYes) rfl scEqual.nd
          (pi_range1 rfl mr (pa_cons (pe_callB call_len_seq (by rfl) ml PySem.boot_len (pa_cons (pv 1) pa_nil)) pa_nil))
          (blkOk_by (own := [("at", 2)]) (N := ["actual", "due", "at"]) (sc := defScope sEqual) (by decide +kernel))
          (fun _ _ _ _ _ => pg_name (i := 2) scEqual.nd rfl (Or.inl rfl)) (fun _ _ _ _ _ => pts_nil)
          (fun _ _ _ _ _ => pe_call GE hr (by rfl) gF F.kp bF .nil pass0 (pa_cons (pe_ix (r := rIx K) ix_seq (pv 0) (pv 2) (fun _ _ => rfl)) (pa_cons (pe_ix (r := rIx K) ix_seq (pv 1) (pv 2) (fun _ _ => rfl)) pa_nil)))) pa_nil)))))))))), ?_⟩
      cases d with
      | none =>
        cases hx
        cases hy
        exact ⟨_, rfl, rfl, _, rfl, iteT ⟨_, rfl, rfl, q H (Same.refl H)⟩⟩
      | bool b =>
        cases hx
        cases hy
        refine ⟨_, rfl, rfl, _, rfl, iteF ⟨_, rfl, _, _, _, _, true, rfl, .ty "bool", .base (.bl b), kit_ty (by decide +kernel), _, rfl, iteT ⟨_, rfl, _, _, _, _, true, rfl, .ty "bool", .base (.bl b), kit_ty (by decide +kernel), _, rfl, iteT ⟨_, rfl, _, rfl, rfl, ?_⟩⟩⟩⟩
        rw [decide_eq_true rfl]
        exact q H (Same.refl H)
      | int i =>
        cases hx
        cases hy
        refine ⟨_, rfl, rfl, _, rfl, iteF ⟨_, rfl, _, _, _, _, false, rfl, .ty "bool", .base (.int i), kit_ty (by decide +kernel), _, rfl, iteF ⟨_, rfl, _, _, _, _, true, rfl, .ty "int", .base (.int i), kit_ty (by decide +kernel), _, rfl, iteT ⟨_, rfl, i, rfl, true, rfl, iteT ⟨_, rfl, _, rfl, rfl, ?_⟩⟩⟩⟩⟩
        rw [decide_eq_true rfl]
        exact q H (Same.refl H)
      | str z =>
        cases hx
        cases hy
        refine ⟨_, rfl, rfl, _, rfl, iteF ⟨_, rfl, _, _, _, _, false, rfl, .ty "bool", .base (.str z), kit_ty (by decide +kernel), _, rfl, iteF ⟨_, rfl, _, _, _, _, false, rfl, .ty "int", .base (.str z), kit_ty (by decide +kernel), _, rfl,
          iteF ⟨_, rfl, _, _, _, _, true, rfl, .ty "str", .base (.str z), kit_ty (by decide +kernel), _, rfl, iteT ⟨_, rfl, _, _, _, _, true, rfl, .ty "str", .base (.str z), kit_ty (by decide +kernel), _, rfl, iteT ⟨_, rfl, _, rfl, rfl, ?_⟩⟩⟩⟩⟩⟩
        rw [decide_eq_true rfl]
        exact q H (Same.refl H)
      | dict _ => exact hd.elim
      | list ds =>
        obtain ⟨hd1, hd2⟩ := hd
        cases hx with
        | @lst a xs _ sx ax =>
          cases hy with
          | @lst b ys _ sy ay =>
            have lx := DpAll.len ax
            have ly := DpAll.len ay
            refine ⟨_, rfl, rfl, _, rfl, iteF ?_⟩
            refine ⟨_, rfl, _, _, _, _, false, rfl, .ty "bool", ty_lst sy, kit_ty (by decide +kernel), _, rfl, iteF ?_⟩
            refine ⟨_, rfl, _, _, _, _, false, rfl, .ty "int", ty_lst sy, kit_ty (by decide +kernel), _, rfl, iteF ?_⟩
            refine ⟨_, rfl, _, _, _, _, false, rfl, .ty "str", ty_lst sy, kit_ty (by decide +kernel), _, rfl, iteF ?_⟩
            refine ⟨_, rfl, _, _, _, _, false, rfl, .ty "tuple", ty_lst sy, kit_ty (by decide +kernel), _, rfl, iteF (iteF ?_)⟩
            refine ⟨_, rfl, _, _, _, _, true, rfl, .ty "list", ty_lst sy, kit_ty (by decide +kernel), _, rfl, iteT ?_⟩
            refine ⟨_, rfl, _, _, _, _, true, rfl, .ty "list", ty_lst sx, kit_ty (by decide +kernel), _, rfl, iteF ?_⟩
            refine ⟨_, rfl, a, xs, rfl, .inl sx, _, rfl, b, ys, rfl, .inl sy, rfl, _, rfl, iteNS (by rw [lx, ly]) ?_⟩
            refine ⟨_, rfl, b, ys, rfl, .inl sy, _, rfl, by omega, by omega, fun D hD => ?_⟩
            refine lc_range (lo := 0) (n := (ys.length : Int).toNat) (fun i H' => Same H H' ∧ H' D = some (.lst ((List.replicate i true).map V.bl))) ⟨Same.new (Same.refl H) hD, by rw [upd_same]; rfl⟩ (fun i H1 hi hP => ?_) (fun H' hP => ?_)
            · obtain ⟨sm, hl⟩ := hP
              have hid : i < ds.length := by omega
              have gd := List.getElem?_eq_getElem hid
              obtain ⟨v, gv, dv⟩ := DpAll.get ax gd
              obtain ⟨u, gu, du⟩ := DpAll.get ay gd
              refine ⟨rfl, tYes_ok ?_⟩
              refine ⟨_, rfl, _, rfl, .inl ⟨a, xs, _, v, rfl, rfl, sm.seq sx, at_of (by omega) gv, ?_⟩⟩
              refine ⟨_, rfl, _, rfl, .inl ⟨b, ys, _, u, rfl, rfl, sm.seq sy, at_of (by omega) gu, ?_⟩⟩
              refine ⟨v, u, ds[i], rfl, Dp.same sm _ _ dv, Dp.same sm _ _ du, hd2 _ (List.getElem_mem hid), fun H2 s2 => ⟨_, s2 _ _ hl, ?_, Same.put' (sm.trans s2) hD, ?_⟩⟩
              · rw [List.length_map, List.length_replicate, sizeLine_eq]
                omega
              · rw [upd_same, List.replicate_succ', List.map_append]
                rfl
            · obtain ⟨sm, hl⟩ := hP
              refine ⟨D, _, rfl, SqL.of hl, ?_⟩
              rw [show (List.replicate (ys.length : Int).toNat true).all id = true from List.all_eq_true.mpr fun z hz => by rw [List.eq_of_mem_replicate hz]; rfl]
              exact q _ sm
      | tuple ds =>
        obtain ⟨hd1, hd2⟩ := hd
        cases hx with
        | @tup a xs _ sx ax =>
          cases hy with
          | @tup b ys _ sy ay =>
            have lx := DpAll.len ax
            have ly := DpAll.len ay
            refine ⟨_, rfl, rfl, _, rfl, iteF ?_⟩
            refine ⟨_, rfl, _, _, _, _, false, rfl, .ty "bool", ty_tup sy, kit_ty (by decide +kernel), _, rfl, iteF ?_⟩
            refine ⟨_, rfl, _, _, _, _, false, rfl, .ty "int", ty_tup sy, kit_ty (by decide +kernel), _, rfl, iteF ?_⟩
            refine ⟨_, rfl, _, _, _, _, false, rfl, .ty "str", ty_tup sy, kit_ty (by decide +kernel), _, rfl, iteF ?_⟩
            refine ⟨_, rfl, _, _, _, _, true, rfl, .ty "tuple", ty_tup sy, kit_ty (by decide +kernel), _, rfl, iteT ?_⟩
            refine ⟨_, rfl, _, _, _, _, true, rfl, .ty "tuple", ty_tup sx, kit_ty (by decide +kernel), _, rfl, iteF ?_⟩
            refine ⟨_, rfl, _, _, _, _, false, rfl, .ty "list", ty_tup sy, kit_ty (by decide +kernel), _, rfl, iteF (iteF ?_)⟩
            refine ⟨_, rfl, a, xs, rfl, .inr sx, _, rfl, b, ys, rfl, .inr sy, rfl, _, rfl, iteNS (by rw [lx, ly]) ?_⟩
            refine ⟨_, rfl, b, ys, rfl, .inr sy, _, rfl, by omega, by omega, fun D hD => ?_⟩
            refine lc_range (lo := 0) (n := (ys.length : Int).toNat) (fun i H' => Same H H' ∧ H' D = some (.lst ((List.replicate i true).map V.bl))) ⟨Same.new (Same.refl H) hD, by rw [upd_same]; rfl⟩ (fun i H1 hi hP => ?_) (fun H' hP => ?_)
            · obtain ⟨sm, hl⟩ := hP
              have hid : i < ds.length := by omega
              have gd := List.getElem?_eq_getElem hid
              obtain ⟨v, gv, dv⟩ := DpAll.get ax gd
              obtain ⟨u, gu, du⟩ := DpAll.get ay gd
              refine ⟨rfl, tYes_ok ?_⟩
              refine ⟨_, rfl, _, rfl, .inr (.inl ⟨a, xs, _, v, rfl, rfl, Same.tup sm sx, at_of (by omega) gv, ?_⟩)⟩
              refine ⟨_, rfl, _, rfl, .inr (.inl ⟨b, ys, _, u, rfl, rfl, Same.tup sm sy, at_of (by omega) gu, ?_⟩)⟩
              refine ⟨v, u, ds[i], rfl, Dp.same sm _ _ dv, Dp.same sm _ _ du, hd2 _ (List.getElem_mem hid), fun H2 s2 => ⟨_, s2 _ _ hl, ?_, Same.put' (sm.trans s2) hD, ?_⟩⟩
              · rw [List.length_map, List.length_replicate, sizeLine_eq]
                omega
              · rw [upd_same, List.replicate_succ', List.map_append]
                rfl
            · obtain ⟨sm, hl⟩ := hP
              refine ⟨D, _, rfl, SqL.of hl, ?_⟩
              rw [show (List.replicate (ys.length : Int).toNat true).all id = true from List.all_eq_true.mpr fun z hz => by rw [List.eq_of_mem_replicate hz]; rfl]
              exact q _ sm
end
end Sy
/-! Syncedwords, part 6: slices and sums of tuples by their items, a list of a text's signs, what stays when lists change. -/
namespace L2
open PySem PySem.Spec PyProof.Rows
section
variable {X : Cx}
/-- t + u: some tuple of both -/
def rCatSy (K : PySem.W.Frag) : R2 := fun x y H Q => ∃ a b xs ys, x = .ref a ∧ y = .ref b ∧ SqT K H a xs ∧ SqT K H b ys ∧ xs.length + ys.length ≤ sizeLine ∧ ∀ c H', Same H H' → SqT K H' c (xs ++ ys) → Q (.ref c) H'
theorem op_catSy : OpR X (binaryOp .Add) (rCatSy X.K) := by
  intro pins s σ H x y v u Q I rx ry h
  obtain ⟨a, b, xs, ys, rfl, rfl, ha, hb, hz, q⟩ := h
  refine op_catA pins s σ H _ _ v u Q I rx ry ⟨a, b, xs, ys, rfl, rfl, ha, hb, hz, fun e => ?_, fun _ e => ?_, fun _ _ p hp => ?_⟩
  · subst e
    exact q b H (Same.refl H) hb
  · subst e
    exact q a H (Same.refl H) (by rw [List.append_nil]; exact ha)
  · exact q p _ (Sy.Same.new (Same.refl H) hp) (SqT.of upd_same)
/-- t[lo:hi]: some tuple of the part -/
def rSlSy (K : PySem.W.Frag) : V → Option Int → Option Int → Hp → VK → Prop := fun x lo hi H Q => ∃ a xs, x = .ref a ∧ SqT K H a xs ∧ ∀ c H', Same H H' → SqT K H' c (cutV xs lo hi) → Q (.ref c) H'
theorem sl_tupSy : SlR X (rSlSy X.K) := by
  intro pins s σ H x v vl vu lo hi sl Q I rx hs pl pu h
  obtain ⟨a, xs, rfl, hx, q⟩ := h
  refine sl_tupA pins s σ H _ v vl vu lo hi sl Q I rx hs pl pu ⟨a, xs, rfl, hx, fun e => ?_, fun _ p hp => ?_⟩
  · refine q a H (Same.refl H) ?_
    unfold cutV
    rw [e.1, e.2, List.drop_zero, Nat.sub_zero, List.take_length]
    exact hx
  · exact q p _ (Sy.Same.new (Same.refl H) hp) (SqT.of upd_same)
/-- len of a list or tuple, by name -/
def rLenSy (K : PySem.W.Frag) : List V → Hp → VK → Prop := fun xs H Q => ∃ (p : Addr) (ys : List V), xs = [.ref p] ∧ (SqL K H p ys ∨ SqT K H p ys) ∧ Q (.int ys.length) H
theorem call_lenSy : CallR X (.builtin "len") (rLenSy X.K) := call_len_seq
/-- list(z), z a text -/
theorem call_list_txt (hc : X.calm = true) : CallR X (.type "list") (fun xs H Q => ∃ z, xs = [.str z] ∧ z.length ≤ sizeLine ∧ ∀ l, H l = none → Q (.ref l) (upd H l (.lst ((TL.tl z).map fun c => V.str ⟨#[c]⟩)))) := by
  intro pins s σ H xs us Q I r h
  obtain ⟨z, rfl, hz, q⟩ := h
  obtain ⟨u, rfl, rx⟩ := vals1 r
  obtain ⟨t, rfl⟩ := rx
  refine call_list_str (I.ok.hd hc) z t (hn := hz) fun h' tk acc c hk hS hacc => ?_
  refine ⟨.ref s.heap.objs.size, _, I.laid (t' := tk) hk (Nat.le_refl _) (show ObjOk X.prog X.w _ h' _ (.lst _) from ⟨by rw [List.length_map, ← TL.len_tl]; exact hz, acc.toList, c, ?_, by simpa using hS⟩), rfl, q _ (I.hok.fresh (Nat.le_refl _))⟩
  have key : ∀ (l : List Nat) (vs : List Value), vs.length = l.length → (∀ (j : Nat) (v : Value), vs[j]? = some v → ∃ c u, l[j]? = some c ∧ v = Value.str ⟨#[c]⟩ u) → Vals (l.map fun c => V.str ⟨#[c]⟩) vs := by
    intro l
    induction l with
    | nil =>
      intro vs hl _
      cases vs with
      | nil => exact .nil
      | cons v vs => simp at hl
    | cons c l ih =>
      intro vs hl hv
      cases vs with
      | nil => simp at hl
      | cons v vs =>
        obtain ⟨c', u, e, rfl⟩ := hv 0 v rfl
        cases Option.some.inj e
        exact .cons ⟨u, rfl⟩ (ih vs (by simpa using hl) fun j w hw => hv (j + 1) w hw)
  refine key _ _ (by simp [hacc.1]) fun j v hv => ?_
  obtain ⟨c, u, hc, e⟩ := hacc.2 j v (by simpa using hv)
  exact ⟨c, u, by rw [Array.getElem?_toList]; exact hc, e⟩
end
end L2
namespace Sy
open PySem PySem.Spec PyProof.Rows L2
theorem cut_to (xs : List V) (k : Nat) : cutV xs none (some (k : Int)) = xs.take k := by
  unfold cutV
  rw [HT.sIx_none, HT.sIx_nat, List.drop_zero, Nat.sub_zero]
  rcases Nat.le_total k xs.length with h | h
  · rw [Nat.min_eq_left h]
  · rw [Nat.min_eq_right h, List.take_length, List.take_of_length_le h]
theorem tl_cut_to (z : Str) (k : Nat) : TL.tl (cutS z none (some (k : Int))) = (TL.tl z).take k := by
  show (((TL.tl z).drop (HT.sIx z.length 0 none)).take (HT.sIx z.length z.length (some (k : Int)) - HT.sIx z.length 0 none)) = _
  rw [HT.sIx_none, HT.sIx_nat, List.drop_zero, Nat.sub_zero]
  have e := TL.len_tl z
  rcases Nat.le_total k z.length with h | h
  · rw [Nat.min_eq_left h]
  · rw [Nat.min_eq_right h, e, List.take_length, List.take_of_length_le (by omega)]
theorem tl_cut_from (z : Str) (k : Nat) : TL.tl (cutS z (some (k : Int)) none) = (TL.tl z).drop k := by
  show (((TL.tl z).drop (HT.sIx z.length 0 (some (k : Int)))).take (HT.sIx z.length z.length none - HT.sIx z.length 0 (some (k : Int)))) = _
  rw [HT.sIx_none, HT.sIx_nat]
  have e := TL.len_tl z
  rw [List.take_of_length_le (by rw [List.length_drop]; omega)]
  rcases Nat.le_total k z.length with h | h
  · rw [Nat.min_eq_left h]
  · rw [Nat.min_eq_right h, List.drop_of_length_le (by omega), List.drop_of_length_le (by omega)]
theorem tl_cut_mid (z : Str) {a b : Nat} (h : a ≤ b) (hb : b ≤ z.length) : TL.tl (cutS z (some (a : Int)) (some (b : Int))) = ((TL.tl z).take b).drop a := by
  show (((TL.tl z).drop (HT.sIx z.length 0 (some (a : Int)))).take (HT.sIx z.length z.length (some (b : Int)) - HT.sIx z.length 0 (some (a : Int)))) = _
  rw [HT.sIx_nat, HT.sIx_nat, Nat.min_eq_left hb, Nat.min_eq_left (Nat.le_trans h hb), List.drop_take]
theorem none_back {H H' : Hp} {p : Addr} (s : Same H H') (h : H' p = none) : H p = none := by
  cases e : H p with
  | none => rfl
  | some u =>
    rw [s _ _ e] at h
    cases h
theorem Strm.same {l p : Addr} {H H' : Hp} (h : Strm l H p) (t : Same H H') : Strm l H' p := by
  obtain ⟨ne, ns, x, k, h1, h2, h3, h4⟩ := h
  exact ⟨ne, ns, x, k, t _ _ h1, h2, t _ _ h3, h4⟩
/-! ### all stands as it was, but lists that may have got other items -/
def Lk (H H' : Hp) : Prop := ∀ b o, H b = some o → H' b = some o ∨ ∃ xs ys, o = .lst xs ∧ H' b = some (.lst ys)
theorem Lk.refl (H : Hp) : Lk H H := fun _ _ e => .inl e
theorem Lk.of_same {H H' : Hp} (s : Same H H') : Lk H H' := fun b o e => .inl (s b o e)
theorem Lk.trans {H H1 H2 : Hp} (k : Lk H H1) (l : Lk H1 H2) : Lk H H2 := fun b o e => by
  rcases k b o e with e1 | ⟨xs, ys, rfl, e1⟩
  · exact l b o e1
  · rcases l b _ e1 with e2 | ⟨_, zs, _, e2⟩
    · exact .inr ⟨xs, ys, rfl, e2⟩
    · exact .inr ⟨xs, zs, rfl, e2⟩
theorem Lk.put {H H1 : Hp} {p : Addr} {xs ys : List V} (k : Lk H H1) (e : H1 p = some (.lst xs)) : Lk H (upd H1 p (.lst ys)) := k.trans fun b o h => by
  by_cases hb : b = p
  · subst hb
    rw [e] at h
    cases h
    exact .inr ⟨xs, ys, rfl, upd_same⟩
  · exact .inl (by rw [upd_ne hb]; exact h)
theorem Lk.of_keep {l s : Addr} {H H' : Hp} (k : Keep s H H') (a : Strm l H s) (b : Strm l H' s) : Lk H H' := fun p o e => by
  by_cases hp : p = s
  · subst hp
    obtain ⟨_, _, x, c, _, _, h1, _⟩ := a
    obtain ⟨_, _, x', c', _, _, h2, _⟩ := b
    rw [h1] at e
    cases e
    exact .inr ⟨_, _, rfl, h2⟩
  · exact .inl (k p o hp e)
theorem Lk.tup {K : PySem.W.Frag} {H H' : Hp} {b : Addr} {xs : List V} (k : Lk H H') (h : SqT K H b xs) : SqT K H' b xs := by
  rcases h with (h | ⟨o, h⟩) | h
  · rcases k _ _ h with e | ⟨_, _, z, _⟩
    · exact .inl (.inl e)
    · cases z
  · rcases k _ _ h with e | ⟨_, _, z, _⟩
    · exact .inl (.inr ⟨o, e⟩)
    · cases z
  · exact .inr h
theorem Lk.ty {K : PySem.W.Frag} {H H' : Hp} {x : V} {t : Value} (k : Lk H H') (h : TyX K H x t) : TyX K H' x t := by
  have st : ∀ {a : Addr} {o : HO}, H a = some o → (∀ xs, o ≠ .lst xs) → H' a = some o := fun {a o} e n => by
    rcases k _ _ e with e | ⟨xs, _, z, _⟩
    · exact e
    · exact absurd z (n xs)
  cases h with
  | base b =>
    refine .base ?_
    cases b with
    | non => exact .non
    | bl y => exact .bl y
    | int i => exact .int i
    | str y => exact .str y
    | flt y => exact .flt y
    | lst e =>
      rcases k _ _ e with e | ⟨_, _, _, e⟩
      · exact .lst e
      · exact .lst e
    | frz e => exact .frz (st e fun _ z => by cases z)
    | tup e => exact .tup (st e fun _ z => by cases z)
    | dK e => exact .dK (st e fun _ z => by cases z)
    | dT e => exact .dT (st e fun _ z => by cases z)
    | ins e cl ha hn htk hm => exact .ins (st e fun _ z => by cases z) cl ha hn htk hm
  | byt b => exact .byt b
  | set e => exact .set (st e fun _ z => by cases z)
  | kList e c => exact .kList e c
  | kTuple e c => exact .kTuple e c
  | kDict e c => exact .kDict e c
  | fTuple e => exact .fTuple (st e fun _ z => by cases z)
  | fDict e => exact .fDict (st e fun _ z => by cases z)
theorem Lk.wd {K : PySem.W.Frag} {H H' : Hp} {v : V} (k : Lk H H') (h : Wd K H v) : Wd K H' v := by
  rcases h with h | ⟨t, h, e⟩
  · exact .inl h
  · exact .inr ⟨t, k.ty h, e⟩
end Sy
/-! Syncedwords: drawn codes are codes. -/
namespace Sy
open PySem PySem.Spec PyProof.Rows L2
/-! ### codes and what is none -/
theorem abc_of {c : Nat} (h1 : 97 ≤ c) (h2 : (c : Int) < 97 + 3) : abc c = true := by
  have e : ("abc" : Str).cps.toList = [97, 98, 99] := by decide +kernel
  unfold abc
  rw [e]
  obtain h | h | h : c = 97 ∨ c = 98 ∨ c = 99 := by omega
  · subst h; decide
  · subst h; decide
  · subst h; decide
theorem lets_all {z : Str} (h : Lets 3 z) : (TL.tl z).all abc = true := List.all_eq_true.mpr fun c hc => abc_of (h c hc).1 (h c hc).2
theorem okTxt_of {z : Str} {lo hi : Int} (h : Lets 3 z) (h1 : lo ≤ z.length) (h2 : (z.length : Int) ≤ hi) : okTxt z lo hi = true := by
  unfold okTxt
  rw [decide_eq_true h1, decide_eq_true h2, lets_all h]
  rfl
theorem codeB_of {ws : List Str} (nd : ws.Nodup) (hl : ws.length ≤ 6) (h : ∀ z ∈ ws, Lets 3 z ∧ 1 ≤ z.length ∧ (z.length : Int) ≤ 5) : codeB (ws.map V.str) = true := by
  unfold codeB
  rw [List.length_map, decide_eq_true hl, List.map_map, show (txtOf ∘ V.str) = id from rfl, List.map_id, decide_eq_true ((met_len ws).mpr nd), List.all_map, Bool.and_true, Bool.true_and]
  refine List.all_eq_true.mpr fun z hz => ?_
  obtain ⟨a, b, c⟩ := h z hz
  exact okTxt_of a (by omega) c
/-- words that make a code; a string of at most 24 letters -/
structure GoodC (ws : List Str) : Prop where
  nd : ws.Nodup
  six : ws.length ≤ 6
  word : ∀ z ∈ ws, Lets 3 z ∧ 1 ≤ z.length ∧ (z.length : Int) ≤ 5
theorem GoodC.code {ws : List Str} (h : GoodC ws) : codeB (ws.map V.str) = true := codeB_of h.nd h.six h.word
theorem GoodC.wd {K : PySem.W.Frag} {H : Hp} {ws : List Str} (h : GoodC ws) : ∀ v ∈ ws.map V.str, Wd K H v := fun v hv => by
  obtain ⟨z, hz, rfl⟩ := List.mem_map.mp hv
  exact .inl ⟨z, rfl, by have := (h.word z hz).2.2; omega⟩
def GoodS (z : Str) : Prop := Lets 3 z ∧ z.length ≤ 24
theorem len_app (x y : Str) : (x ++ y).length = x.length + y.length := by
  rw [TL.len_tl, TL.tl_append, List.length_append, TL.len_tl, TL.len_tl]
abbrev Ws (ws : List Str) : List (List Nat) := ws.map TL.tl
end Sy
/-! Syncedwords: checks that pass; counts from the end. -/
namespace Sy
open PySem PySem.Spec PyProof.Rows L2 SyM
open C8 (pss_cut tCut)
abbrev sChkC : Stmt := topS 16
abbrev sChkS : Stmt := topS 17
abbrev sShares : Stmt := topS 23
abbrev sBehind : Stmt := topS 24
abbrev sCount : Stmt := topS 27
theorem scChkC : FnScope ["value", "name"] ["value", "name"] (defScope sChkC) := ⟨rfl, rfl, rfl, by decide +kernel, rfl, by decide +kernel, by decide +kernel⟩
theorem scChkS : FnScope ["value", "name"] ["value", "name"] (defScope sChkS) := ⟨rfl, rfl, rfl, by decide +kernel, rfl, by decide +kernel, by decide +kernel⟩
abbrev nShares : List Str := ["code", "string", "place", "counts", "rest", "word"]
theorem scShares : FnScope nShares ["code", "string", "place", "counts"] (defScope sShares) := ⟨rfl, rfl, rfl, by decide +kernel, rfl, by decide +kernel, by decide +kernel⟩
abbrev nBehind : List Str := ["code", "string", "counts", "place"]
theorem scBehind : FnScope nBehind ["code", "string"] (defScope sBehind) := ⟨rfl, rfl, rfl, by decide +kernel, rfl, by decide +kernel, by decide +kernel⟩
theorem scCount : FnScope ["code", "string"] ["code", "string"] (defScope sCount) := ⟨rfl, rfl, rfl, by decide +kernel, rfl, by decide +kernel, by decide +kernel⟩

theorem GoodC.ne {ws : List Str} (h : GoodC ws) : NE (Ws ws) := fun w hw => by
  obtain ⟨z, hz, rfl⟩ := List.mem_map.mp hw
  have h1 := (h.word z hz).2.1
  rw [TL.len_tl] at h1
  exact fun e => by
    rw [e] at h1
    exact absurd h1 (by decide)
theorem GoodC.len {ws : List Str} (h : GoodC ws) : (Ws ws).length ≤ 6 := by
  rw [List.length_map]
  exact h.six
theorem ws_get {ws : List Str} {j : Nat} {y : Str} (h : ws[j]? = some y) : (Ws ws).getD j [] = TL.tl y := by
  rw [List.getD_eq_getElem?_getD, List.getElem?_map, h]
  rfl
theorem starts_pre (x y : Str) : Txt.startswith x y = pre (TL.tl y) (TL.tl x) := by
  unfold Txt.startswith pre
  have ex := TL.len_tl x
  have ey := TL.len_tl y
  rw [PySem.StrLaws.subAt_eq, List.drop_zero, ey, ex, Nat.zero_add]
  by_cases h : (TL.tl x).take (TL.tl y).length = TL.tl y
  · have hl := congrArg List.length h
    rw [List.length_take] at hl
    rw [decide_eq_true h, decide_eq_true (show (TL.tl y).length ≤ (TL.tl x).length by omega), Bool.true_and]
    exact beq_iff_eq.mpr h
  · rw [decide_eq_false h]
    have : ((TL.tl x).take (TL.tl y).length == TL.tl y) = false := beq_eq_false_iff_ne.mpr h
    rw [this, Bool.and_false]
theorem ends_suf (x y : Str) : Txt.endswith x y = suf (TL.tl y) (TL.tl x) := by
  unfold Txt.endswith suf
  have ex := TL.len_tl x
  have ey := TL.len_tl y
  rw [PySem.StrLaws.subAt_eq, ey, ex, Nat.zero_add]
  show (decide ((TL.tl y).length ≤ (TL.tl x).length) && (((TL.tl x).drop ((TL.tl x).length - (TL.tl y).length)).take (TL.tl y).length == TL.tl y)) = _
  generalize TL.tl x = X
  generalize TL.tl y = Y
  by_cases hl : Y.length ≤ X.length
  · rw [decide_eq_true hl, Bool.true_and, List.take_of_length_le (by rw [List.length_drop]; omega)]
    by_cases h : X.drop (X.length - Y.length) = Y
    · rw [decide_eq_true ⟨hl, h⟩]
      exact beq_iff_eq.mpr h
    · rw [decide_eq_false fun z => h z.2]
      exact beq_eq_false_iff_ne.mpr h
  · rw [decide_eq_false hl, decide_eq_false fun z => hl z.1, Bool.false_and]
/-- numbers as values -/
abbrev iN (n : Nat) : V := .int (n : Nat)
theorem iN_ints (l : List Nat) : l.map iN = (l.map Int.ofNat).map V.int := by
  rw [List.map_map]
  rfl
theorem sum_ints : ∀ l : List Nat, (l.map Int.ofNat).sum = ((l.sum : Nat) : Int)
  | [] => rfl
  | a :: l => by
    rw [List.map_cons, List.sum_cons, List.sum_cons, sum_ints l]
    rfl

def spChkC (K : PySem.W.Frag) : Sp := fun vs H Q _ => ∃ (a : Addr) (ws : List Str) (n : V), vs = [.ref a, n] ∧ SqT K H a (ws.map V.str) ∧ GoodC ws ∧ ∀ H', Same H H' → Q .non H'
def spChkS : Sp := fun vs H Q _ => ∃ (z : Str) (n : V), vs = [.str z, n] ∧ GoodS z ∧ ∀ H', Same H H' → Q .non H'
def spShares (K : PySem.W.Frag) : Sp := fun vs H Q _ => ∃ (a cs : Addr) (ws : List Str) (z : Str) (k : Nat) (L : List Nat), vs = [.ref a, .str z, iN k, .ref cs] ∧ SqT K H a (ws.map V.str) ∧ GoodC ws ∧ GoodS z ∧ SqL K H cs (L.map iN) ∧ L.length = z.length + 1 ∧ k ≤ z.length ∧
  ∀ D H', Same H H' → H D = none → H' D = some (.lst ((sh (Ws ws) ((TL.tl z).drop k) (L.drop k)).map iN)) → Q (.ref D) H'
def spBehind (K : PySem.W.Frag) : Sp := fun vs H Q _ => ∃ (a : Addr) (ws : List Str) (z : Str), vs = [.ref a, .str z] ∧ SqT K H a (ws.map V.str) ∧ GoodC ws ∧ GoodS z ∧
  ∀ D H', Same H H' → H D = none → H' D = some (.lst ((cb (Ws ws) (TL.tl z)).map iN)) → Q (.ref D) H'
def spCount (K : PySem.W.Frag) : Sp := fun vs H Q _ => ∃ (a : Addr) (ws : List Str) (z : Str), vs = [.ref a, .str z] ∧ SqT K H a (ws.map V.str) ∧ GoodC ws ∧ GoodS z ∧ ∀ H', Same H H' → Q (iN (cnt (Ws ws) (TL.tl z))) H'

section
variable {P : Program} {w : World} {K : PySem.W.Frag} {mg : Str → Option Value} {base : Heap}
theorem ok_chkc {f fc : Addr} {fd fdc : FuncData} (F : Fun K "check_code" "check_code" sChkC f fd) (GI : FnOk P w K mg base CX0 3 fc fdc ["value"] (spIsCode K)) (kI : PySem.W.keepIn K (.ref fc) = true) (bI : Binds K fdc ["value"] []) (gI : mg "is_code" = some (.ref fc)) :
    FnOk P w K mg base CX0 4 f fd ["value", "name"] (spChkC K) := by
  refine F.ok scChkC (fun vs H Q E h => ?_) (fun cdv A outer s H vs Q E hr h => ?_)
  · obtain ⟨a, ws, n, rfl, _⟩ := h
    rfl
  · obtain ⟨a, ws, n, rfl, hT, hg, q⟩ := h
    refine ⟨_, pss_one (ps_if (pt_not (pt_val (pe_call GI (hr.mono (by decide)) (by rfl) gI kI bI .nil pass0 (pa_cons (pv 0) pa_nil)))) pss_never pss_nil), ?_⟩
    refine ⟨_, rfl, _, rfl, .inr ⟨a, _, rfl, hT, by rw [List.length_map]; have := hg.six; omega, hg.wd, fun H' s => ?_⟩⟩
    rw [hg.code]
    exact ⟨true, rfl, iteF (q H' s)⟩
theorem ok_chks {f fc : Addr} {fd fdc : FuncData} (F : Fun K "check_string" "check_string" sChkS f fd) (GI : FnOk P w K mg base CX0 3 fc fdc ["value"] (spIsString K)) (kI : PySem.W.keepIn K (.ref fc) = true) (bI : Binds K fdc ["value"] []) (gI : mg "is_string" = some (.ref fc)) :
    FnOk P w K mg base CX0 4 f fd ["value", "name"] spChkS := by
  refine F.ok scChkS (fun vs H Q E h => ?_) (fun cdv A outer s H vs Q E hr h => ?_)
  · obtain ⟨z, n, rfl, _⟩ := h
    rfl
  · obtain ⟨z, n, rfl, hg, q⟩ := h
    refine ⟨_, pss_one (ps_if (pt_not (pt_val (pe_call GI (hr.mono (by decide)) (by rfl) gI kI bI .nil pass0 (pa_cons (pv 0) pa_nil)))) pss_never pss_nil), ?_⟩
    have hl := hg.2
    refine ⟨_, rfl, _, rfl, .inl ⟨z, rfl, by omega, fun H' s => ?_⟩⟩
    rw [okTxt_of hg.1 (by omega) (by omega)]
    exact ⟨true, rfl, iteF (q H' s)⟩
theorem ok_shares {f : Addr} {fd : FuncData} (F : Fun K "shares" "shares" sShares f fd) (ml : mg "len" = none) : FnOk P w K mg base CX0 1 f fd ["code", "string", "place", "counts"] (spShares K) := by
  refine F.ok scShares (fun vs H Q E h => ?_) (fun cdv A outer s H vs Q E hr h => ?_)
  · obtain ⟨a, cs, ws, z, k, L, rfl, _⟩ := h
    rfl
  · obtain ⟨a, cs, ws, z, k, L, rfl, hT, hg, hz, hL, hlen, hk, q⟩ := h
    have hz24 := hz.2
    refine ⟨_, (pss_cons (ps_set (i := 4) scShares.nd rfl (.inr rfl) (pe_slice sl_str (pv 1) (po_some (pv 2)) po_none))
       (pss_one (ps_ret (pe_lc (own := [("word", 5)]) (g := (gName 5)) (tt := tYes) rfl scShares.nd (pi_tup (pv 0)) (blkOk_by (own := [("word", 5)]) (N := nShares) (sc := defScope sShares) (by decide +kernel)) (fun _ _ _ _ _ => (pg_name (i := 5) scShares.nd rfl (Or.inl rfl))) (fun _ _ _ _ _ => pts_nil) (fun _ _ _ _ _ => (pe_ifExp (pt_val (pe_m1 PySem.F.slot_str_startswith PySem.F.type_str_startswith mt_startswith (pv 4) (pv 5))) (pe_ix (r := rIxL K) ix_list (pv 3) (pe_op op_add (pv 2) (pe_callB call_len_str (by rfl) ml PySem.boot_len (pa_cons (pv 5) pa_nil))) (fun _ _ => rfl)) pe_int)))))), ?_⟩
    refine ⟨_, rfl, _, rfl, (k : Int), rfl, z, rfl, by rw [sizeLine_eq]; omega, ?_⟩
    have er := tl_cut_from z k
    generalize cutS z (some (k : Int)) none = r at er
    refine ⟨_, rfl, a, rfl, ⟨_, hT⟩, fun D hD => ?_⟩
    refine lc_tup (xs := ws.map V.str) (fun i H' => Same H H' ∧ H' D = some (.lst (((sh (Ws ws) (TL.tl r) (L.drop k)).take i).map iN))) ⟨Same.new (Same.refl H) hD, by rw [upd_same]; rfl⟩ (fun i H' _ hP => Same.tup hP.1 hT) (fun i x H' hx hP => ?_) (fun H' hP => ?_)
    · obtain ⟨sm, hl⟩ := hP
      rw [List.getElem?_map] at hx
      cases hw : ws[i]? with
      | none =>
        rw [hw] at hx
        cases hx
      | some y =>
        rw [hw] at hx
        cases Option.some.inj hx
        have hlt := (List.getElem?_eq_some_iff.mp hw).1
        have h6 := hg.six
        have hyw := hg.word y (List.mem_of_getElem? hw)
        have hsh : (sh (Ws ws) (TL.tl r) (L.drop k))[i]? = some (if pre (TL.tl y) (TL.tl r) = true then (L.drop k).getD (TL.tl y).length 0 else 0) := by
          unfold sh
          rw [List.getElem?_map, List.getElem?_map, hw]
          rfl
        have fin : ∀ v : Nat, (if pre (TL.tl y) (TL.tl r) = true then (L.drop k).getD (TL.tl y).length 0 else 0) = v → ∃ acc, H' D = some (.lst acc) ∧ acc.length < sizeLine ∧ Same H (upd H' D (.lst (acc ++ [iN v]))) ∧ (upd H' D (.lst (acc ++ [iN v]))) D = some (.lst (((sh (Ws ws) (TL.tl r) (L.drop k)).take (i + 1)).map iN)) := fun v ev => by
          refine ⟨_, hl, ?_, Same.put' sm hD, ?_⟩
          · rw [List.length_map, List.length_take, sizeLine_eq]
            omega
          · rw [upd_same, List.take_add_one, hsh, ev, List.map_append]
            rfl
        refine ⟨rfl, tYes_ok ⟨_, rfl, ⟨_, rfl⟩, _, rfl, _, _, rfl, rfl, _, rfl, ?_⟩⟩
        rw [starts_pre]
        by_cases hp : pre (TL.tl y) (TL.tl r) = true
        · rw [hp]
          have hle := pre_le hp
          rw [er, List.length_drop, ← TL.len_tl, ← TL.len_tl] at hle
          have hjl : k + y.length < L.length := by omega
          refine iteT ⟨_, rfl, _, rfl, _, rfl, y, rfl, by rw [sizeLine_eq]; omega, _, _, rfl, rfl, cs, L.map iN, _, iN L[k + y.length], rfl, rfl, sm.seq hL, at_of (j := k + y.length) (by omega) ?_, fin _ ?_⟩
          · rw [List.getElem?_map, List.getElem?_eq_getElem hjl]
            rfl
          · rw [if_pos hp, List.getD_eq_getElem?_getD, List.getElem?_drop, ← TL.len_tl, List.getElem?_eq_getElem hjl]
            rfl
        · rw [show pre (TL.tl y) (TL.tl r) = false from by simpa using hp]
          exact iteF (fin 0 (if_neg hp))
    · obtain ⟨sm, hl⟩ := hP
      rw [List.length_map, List.take_of_length_le (by unfold sh; rw [List.length_map, List.length_map]; exact Nat.le_refl _), er] at hl
      exact q D H' sm hD hl
theorem ok_behind {f fs : Addr} {fd fds : FuncData} (F : Fun K "counts_behind" "counts_behind" sBehind f fd) (GS : FnOk P w K mg base CX0 1 fs fds ["code", "string", "place", "counts"] (spShares K)) (kS : PySem.W.keepIn K (.ref fs) = true) (bS : Binds K fds ["code", "string", "place", "counts"] []) (gS : mg "shares" = some (.ref fs))
    (ml : mg "len" = none) (mr : mg "range" = none) (mv : mg "reversed" = none) (mu : mg "sum" = none) : FnOk P w K mg base CX0 2 f fd ["code", "string"] (spBehind K) := by
  refine F.ok scBehind (fun vs H Q E h => ?_) (fun cdv A outer s H vs Q E hr h => ?_)
  · obtain ⟨a, ws, z, rfl, _⟩ := h
    rfl
  · obtain ⟨a, ws, z, rfl, hT, hg, hz, q⟩ := h
    have hz24 := hz.2
    have ez := TL.len_tl z
    refine ⟨_, (pss_cons (ps_set (i := 2) scBehind.nd rfl (.inl rfl) (pe_op op_cat (pe_op op_rep (pe_lst (pa_cons pe_int pa_nil)) (pe_callB call_len_str (by rfl) ml PySem.boot_len (pa_cons (pv 1) pa_nil))) (pe_lst (pa_cons pe_int pa_nil))))
       (pss_cons (ps_for PassesOwn.never rfl (pi_revR (by rfl) mv (prg_1 (by rfl) mr (pe_callB call_len_str (by rfl) ml PySem.boot_len (pa_cons (pv 1) pa_nil)))) (pg_name (i := 3) scBehind.nd rfl (Or.inl rfl)) (pss_one (ps_asg (pe_callB (cr_sum rfl) (by rfl) mu (by decide +kernel) (pa_cons (pe_call GS (hr.mono (by decide)) (by rfl) gS kS bS .nil pass0 (pa_cons (pv 0) (pa_cons (pv 1) (pa_cons (pv 3) (pa_cons (pv 2) pa_nil))))) pa_nil)) (pg_sub (pv 2) (pv 3) set_list))))
       (pss_one (ps_ret (pv 2))))), ?_⟩
    -- counts = [0] * len(string) + [1]
    refine ⟨(by show 1 ≤ sizeLine; decide), fun p1 n1 => ?_⟩
    refine ⟨_, rfl, z, rfl, by rw [sizeLine_eq]; omega, p1, _, _, rfl, rfl, upd_same, by omega, by omega, ?_, fun p2 n2 => ?_⟩
    · rw [sizeLine_eq]
      show 1 * _ ≤ _
      omega
    refine ⟨(by show 1 ≤ sizeLine; decide), fun p3 n3 => ?_⟩
    have s3 := Same.new (o := .lst [.int 1]) (Same.new (o := .lst (List.replicate (z.length : Int).toNat [V.int 0]).flatten) (Same.new (o := .lst [.int 0]) (Same.refl H) n1) n2) n3
    have h2 : (upd (upd (upd H p1 (.lst [.int 0])) p2 (.lst (List.replicate (z.length : Int).toNat [V.int 0]).flatten)) p3 (.lst [.int 1])) p2 = some (.lst (List.replicate (z.length : Int).toNat [V.int 0]).flatten) := Same.new (Same.refl _) n3 _ _ upd_same
    refine ⟨p2, p3, _, _, rfl, rfl, h2, upd_same, ?_, fun C nC => ?_⟩
    · rw [List.length_flatten, List.map_replicate, List.sum_replicate_nat, sizeLine_eq]
      show _ * 1 + 1 ≤ _
      omega
    have hC0 : H C = none := by
      cases e : H C with
      | none => rfl
      | some u =>
        rw [s3 _ _ e] at nC
        cases nC
    have e0 : (List.replicate (z.length : Int).toNat [V.int 0]).flatten ++ [V.int 1] = (List.replicate z.length 0 ++ cb (Ws ws) ((TL.tl z).drop z.length)).map iN := by
      rw [List.drop_of_length_le (by omega), List.map_append, List.map_replicate, show (z.length : Int).toNat = z.length from Int.toNat_natCast _]
      congr 1
      induction z.length with
      | zero => rfl
      | succ m ih => rw [List.replicate_succ, List.flatten_cons, ih, List.replicate_succ] <;> rfl
    -- the loop
    refine ⟨_, rfl, z, rfl, by rw [sizeLine_eq]; omega, (z.length : Int), rfl, by decide, by decide, by omega, by omega, ?_⟩
    refine for_rangeC (lo := 0 + ((((z.length : Int) - 0).toNat : Nat) : Int) - 1) (c := -1) (n := ((z.length : Int) - 0).toNat) (fun i σ H' => ∃ y3, σ = [some (.ref a), some (.str z), some (.ref C), y3] ∧ i ≤ z.length ∧ Same H H' ∧ H' C = some (.lst ((List.replicate (z.length - i) 0 ++ cb (Ws ws) ((TL.tl z).drop (z.length - i))).map iN)))
      ⟨none, rfl, Nat.zero_le _, Same.put' s3 hC0, by rw [upd_same, e0]; rfl⟩ (fun i σ H' hi hP => ?_) (fun σ H' hP => ?_)
    · obtain ⟨y3, rfl, hile, sm, hC⟩ := hP
      obtain ⟨p, hp⟩ : ∃ p, z.length - i = p + 1 := ⟨z.length - i - 1, by omega⟩
      have hpl : p < z.length := by omega
      have ep : (0 + ((((z.length : Int) - 0).toNat : Nat) : Int) - 1 + (i : Nat) * (-1 : Int)) = ((p : Nat) : Int) := by omega
      rw [ep]
      rw [hp] at hC
      have hcl : (cb (Ws ws) ((TL.tl z).drop (p + 1))).length = z.length - p := by
        rw [cb_len, List.length_drop]
        omega
      refine ⟨_, rfl, _, rfl, _, rfl, _, rfl, a, C, ws, z, p, _, rfl, Same.tup sm hT, hg, hz, SqL.of hC, ?_, by omega, fun D H2 sm2 nD hD => ?_⟩
      · rw [List.length_append, List.length_replicate, hcl]
        omega
      have edrop : (List.replicate (p + 1) 0 ++ cb (Ws ws) ((TL.tl z).drop (p + 1))).drop p = 0 :: cb (Ws ws) ((TL.tl z).drop (p + 1)) := by
        rw [List.replicate_succ', List.append_assoc, List.drop_left' (List.length_replicate ..)]
        rfl
      have etl : (TL.tl z).drop p = (TL.tl z)[p]'(by omega) :: (TL.tl z).drop (p + 1) := List.drop_eq_getElem_cons (by omega)
      rw [edrop] at hD
      refine ⟨D, (sh (Ws ws) ((TL.tl z).drop p) (0 :: cb (Ws ws) ((TL.tl z).drop (p + 1)))).map Int.ofNat, rfl, SqL.of (by rw [← iN_ints]; exact hD), ?_⟩
      rw [sum_ints]
      have hC2 := sm2 _ _ hC
      refine ⟨_, rfl, _, rfl, C, _, _, p, rfl, rfl, hC2, ?_, ?_⟩
      · unfold ixN
        rw [if_pos (by omega), if_pos (by rw [List.length_map, List.length_append, List.length_replicate]; omega), Int.toNat_natCast]
      refine ⟨_, rfl, by omega, Same.put' (sm.trans sm2) hC0, ?_⟩
      rw [upd_same, show z.length - (i + 1) = p by omega]
      congr 2
      rw [etl, cb, ← etl]
      show (List.map iN _).set p (iN (sh (Ws ws) ((TL.tl z).drop p) (0 :: cb (Ws ws) ((TL.tl z).drop (p + 1)))).sum) = _
      rw [← List.map_set, List.replicate_succ', List.append_assoc, List.set_append_right _ _ (by rw [List.length_replicate]; exact Nat.le_refl _), List.length_replicate, Nat.sub_self]
      rfl
    · obtain ⟨y3, rfl, _, sm, hC⟩ := hP
      rw [show z.length - ((z.length : Int) - 0).toNat = 0 by omega] at hC
      exact ⟨_, rfl, q C H' sm hC0 hC⟩
theorem ok_count {f fc fs fb : Addr} {fd fdc fds fdb : FuncData} (F : Fun K "count_parses" "count_parses" sCount f fd) (GC : FnOk P w K mg base CX0 4 fc fdc ["value", "name"] (spChkC K)) (kC : PySem.W.keepIn K (.ref fc) = true) (bC : Binds K fdc ["value", "name"] []) (gC : mg "check_code" = some (.ref fc))
    (GS : FnOk P w K mg base CX0 4 fs fds ["value", "name"] spChkS) (kS : PySem.W.keepIn K (.ref fs) = true) (bS : Binds K fds ["value", "name"] []) (gS : mg "check_string" = some (.ref fs))
    (GB : FnOk P w K mg base CX0 2 fb fdb ["code", "string"] (spBehind K)) (kB : PySem.W.keepIn K (.ref fb) = true) (bB : Binds K fdb ["code", "string"] []) (gB : mg "counts_behind" = some (.ref fb)) : FnOk P w K mg base CX0 5 f fd ["code", "string"] (spCount K) := by
  refine F.ok scCount (fun vs H Q E h => ?_) (fun cdv A outer s H vs Q E hr h => ?_)
  · obtain ⟨a, ws, z, rfl, _⟩ := h
    rfl
  · obtain ⟨a, ws, z, rfl, hT, hg, hz, q⟩ := h
    have hr2 : Room 2 _ := hr.mono (by decide)
    refine ⟨_, (pss_cons (ps_expr (pe_call GC (hr.mono (by decide)) (by rfl) gC kC bC .nil pass0 (pa_cons (pv 0) (pa_cons pe_str pa_nil))))
       (pss_cons (ps_expr (pe_call GS (hr.mono (by decide)) (by rfl) gS kS bS .nil pass0 (pa_cons (pv 1) (pa_cons pe_str pa_nil))))
       (pss_one (ps_ret (pe_ix (r := rIxL K) ix_list (pe_call GB (hr.mono (by decide)) (by rfl) gB kB bB .nil pass0 (pa_cons (pv 0) (pa_cons (pv 1) pa_nil))) pe_int (fun _ _ => rfl)))))), ?_⟩
    refine ⟨_, rfl, a, ws, _, rfl, hT, hg, fun H1 s1 => ?_⟩
    refine ⟨_, rfl, z, _, rfl, hz, fun H2 s2 => ?_⟩
    refine ⟨_, rfl, _, rfl, a, ws, z, rfl, Same.tup (s1.trans s2) hT, hg, hz, fun D H3 s3 nD hD => ?_⟩
    have h0 := cb_get (Ws ws) (TL.tl z) 0 (Nat.zero_le _)
    refine ⟨D, _, 0, iN (cnt (Ws ws) (TL.tl z)), rfl, rfl, SqL.of hD, atI_nat (j := 0) ?_, q H3 (s1.trans (s2.trans s3))⟩
    rw [List.getElem?_map, h0]
    rfl
end
end Sy
/-! Syncedwords: counts from the beginning, through a place, boundaries. -/
namespace Sy
open PySem PySem.Spec PyProof.Rows L2 SyM
open C8 (pss_cut tCut)
abbrev sAhead : Stmt := topS 25
abbrev sThrough : Stmt := topS 26
abbrev sBounds : Stmt := topS 31
abbrev sCommon : Stmt := topS 32
abbrev nAhead : List Str := ["code", "string", "counts", "place", "ahead", "word"]
theorem scAhead : FnScope nAhead ["code", "string"] (defScope sAhead) := ⟨rfl, rfl, rfl, by decide +kernel, rfl, by decide +kernel, by decide +kernel⟩
abbrev nThrough : List Str := ["code", "string", "ahead", "behind", "before", "after"]
theorem scThrough : FnScope nThrough ["code", "string"] (defScope sThrough) := ⟨rfl, rfl, rfl, by decide +kernel, rfl, by decide +kernel, by decide +kernel⟩
abbrev nBounds : List Str := ["code", "string", "through", "place", "many"]
theorem scBounds : FnScope nBounds ["code", "string"] (defScope sBounds) := ⟨rfl, rfl, rfl, by decide +kernel, rfl, by decide +kernel, by decide +kernel⟩
abbrev nCommon : List Str := ["code", "string", "through", "total", "place", "many"]
theorem scCommon : FnScope nCommon ["code", "string"] (defScope sCommon) := ⟨rfl, rfl, rfl, by decide +kernel, rfl, by decide +kernel, by decide +kernel⟩
/-- the counts of all beginnings -/
def ca (W : List (List Nat)) (s : List Nat) : List Nat := (List.range (s.length + 1)).map fun k => cnt W (s.take k)
/-- how many parses have a boundary at k -/
def th (W : List (List Nat)) (s : List Nat) (k : Nat) : Nat := cnt W (s.take k) * cnt W (s.drop k)
theorem cb_list (W : List (List Nat)) (s : List Nat) : cb W s = (List.range (s.length + 1)).map fun k => cnt W (s.drop k) := by
  refine List.ext_getElem? fun k => ?_
  by_cases h : k ≤ s.length
  · rw [cb_get W s k h, List.getElem?_map, List.getElem?_range (by omega)]
    rfl
  · rw [List.getElem?_eq_none (by rw [cb_len]; omega), List.getElem?_eq_none (by rw [List.length_map, List.length_range]; omega)]
theorem sum_filter {α : Type} (p : α → Bool) (f : α → Nat) : ∀ l : List α, ((l.filter p).map f).sum = sumL (fun x => if p x = true then f x else 0) l
  | [] => rfl
  | x :: l => by
    rw [sumL, ← sum_filter p f l, List.filter_cons]
    by_cases h : p x = true
    · rw [if_pos h, if_pos h, List.map_cons, List.sum_cons]
    · rw [if_neg h, if_neg h, Nat.zero_add]
theorem filter_take {α : Type} (p : α → Bool) {l : List α} {i : Nat} {x : α} (h : l[i]? = some x) : (l.take (i + 1)).filter p = (l.take i).filter p ++ (if p x = true then [x] else []) := by
  rw [List.take_add_one, h, List.filter_append]
  congr 1
  show [x].filter p = _
  rw [List.filter_cons]
  rfl
def spAhead (K : PySem.W.Frag) : Sp := fun vs H Q _ => ∃ (a : Addr) (ws : List Str) (z : Str), vs = [.ref a, .str z] ∧ SqT K H a (ws.map V.str) ∧ GoodC ws ∧ GoodS z ∧
  ∀ D H', Same H H' → H D = none → H' D = some (.lst ((ca (Ws ws) (TL.tl z)).map iN)) → Q (.ref D) H'
def spThrough (K : PySem.W.Frag) : Sp := fun vs H Q _ => ∃ (a : Addr) (ws : List Str) (z : Str), vs = [.ref a, .str z] ∧ SqT K H a (ws.map V.str) ∧ GoodC ws ∧ GoodS z ∧
  ∀ D H', Same H H' → H D = none → H' D = some (.lst (((List.range (z.length + 1)).map (th (Ws ws) (TL.tl z))).map iN)) → Q (.ref D) H'
def spBounds (K : PySem.W.Frag) : Sp := fun vs H Q _ => ∃ (a : Addr) (ws : List Str) (z : Str), vs = [.ref a, .str z] ∧ SqT K H a (ws.map V.str) ∧ GoodC ws ∧ GoodS z ∧
  ∀ D H', Same H H' → SqT K H' D (((List.range (z.length + 1)).filter fun k => decide (0 < th (Ws ws) (TL.tl z) k)).map iN) → Q (.ref D) H'
def spCommon (K : PySem.W.Frag) : Sp := fun vs H Q _ => ∃ (a : Addr) (ws : List Str) (z : Str), vs = [.ref a, .str z] ∧ SqT K H a (ws.map V.str) ∧ GoodC ws ∧ GoodS z ∧ 0 < cnt (Ws ws) (TL.tl z) ∧
  ∀ D H', Same H H' → SqT K H' D (((List.range (z.length + 1)).filter fun k => decide (th (Ws ws) (TL.tl z) k = cnt (Ws ws) (TL.tl z))).map iN) → Q (.ref D) H'
section
variable {P : Program} {w : World} {K : PySem.W.Frag} {mg : Str → Option Value} {base : Heap}
theorem ok_ahead {f : Addr} {fd : FuncData} (F : Fun K "counts_ahead" "counts_ahead" sAhead f fd) (ml : mg "len" = none) (mr : mg "range" = none) (mu : mg "sum" = none) : FnOk P w K mg base CX0 1 f fd ["code", "string"] (spAhead K) := by
  refine F.ok scAhead (fun vs H Q E h => ?_) (fun cdv A outer s H vs Q E hr h => ?_)
  · obtain ⟨a, ws, z, rfl, _⟩ := h
    rfl
  · obtain ⟨a, ws, z, rfl, hT, hg, hz, q⟩ := h
    have hz24 := hz.2
    have ez := TL.len_tl z
    refine ⟨_, (pss_cons (ps_set (i := 2) scAhead.nd rfl (.inr rfl) (pe_lst (pa_cons pe_int pa_nil)))
       (pss_cons (ps_for PassesOwn.never rfl (pi_range2 (by rfl) mr (pa_cons pe_int (pa_cons (pe_op op_add (pe_callB call_len_str (by rfl) ml PySem.boot_len (pa_cons (pv 1) pa_nil)) pe_int) pa_nil))) (pg_name (i := 3) scAhead.nd rfl (Or.inr rfl)) (pss_cons (ps_set (i := 4) scAhead.nd rfl (.inr rfl) (pe_slice sl_str (pv 1) po_none (po_some (pv 3))))
         (pss_one (ps_expr (pe_bm PySem.F.plainAttrs_list PySem.F.slot_list_append PySem.F.type_list_append mt_append (pv 2) (pa_cons (pe_callB (cr_sum rfl) (by rfl) mu (by decide +kernel) (pa_cons (pe_lc (own := [("word", 5)]) (g := (gName 5)) rfl scAhead.nd (pi_tup (pv 0)) (blkOk_by (own := [("word", 5)]) (N := nAhead) (sc := defScope sAhead) (by decide +kernel)) (fun _ _ _ _ _ => (pg_name (i := 5) scAhead.nd rfl (Or.inl rfl))) (fun _ _ _ _ _ => (pts_one (pt_val (pe_m1 PySem.F.slot_str_endswith PySem.F.type_str_endswith mt_endswith (pv 4) (pv 5))))) (fun _ _ _ _ _ => (pe_ix (r := rIxL K) ix_list (pv 2) (pe_op op_sub (pv 3) (pe_callB call_len_str (by rfl) ml PySem.boot_len (pa_cons (pv 5) pa_nil))) (fun _ _ => rfl)))) pa_nil)) pa_nil))))))
       (pss_one (ps_ret (pv 2))))), ?_⟩
    refine ⟨(by show 1 ≤ sizeLine; decide), fun C nC => ?_⟩
    refine ⟨_, rfl, z, rfl, by rw [sizeLine_eq]; omega, _, 1, rfl, rfl, 1, _, rfl, ⟨by decide, by decide, by omega, by omega⟩, ?_⟩
    refine for_range (lo := 1) (n := ((z.length : Int) + 1 - 1).toNat) (fun i σ H' => ∃ y3 y4, σ = [some (.ref a), some (.str z), some (.ref C), y3, y4, none] ∧ Same H H' ∧ H' C = some (.lst (((List.range (i + 1)).map fun k => cnt (Ws ws) ((TL.tl z).take k)).map iN)))
      ⟨none, none, rfl, Same.new (Same.refl H) nC, by rw [upd_same]; rfl⟩ (fun i σ H' hi hP => ?_) (fun σ H' hP => ?_)
    · obtain ⟨y3, y4, rfl, sm, hC⟩ := hP
      have hil : i < z.length := by omega
      refine ⟨_, rfl, _, rfl, (1 + (i : Int)), rfl, z, rfl, by rw [sizeLine_eq]; omega, ?_⟩
      have er : TL.tl (cutS z none (some (1 + (i : Int)))) = (TL.tl z).take (i + 1) := by
        rw [show (1 + (i : Int)) = ((i + 1 : Nat) : Int) by omega]
        exact tl_cut_to z (i + 1)
      generalize cutS z none (some (1 + (i : Int))) = r at er
      have hrl : (TL.tl r).length = i + 1 := by
        rw [er, List.length_take]
        omega
      refine ⟨_, rfl, .inl ⟨rfl, _, SqL.of hC⟩, ?_⟩
      refine ⟨_, rfl, a, rfl, ⟨_, Same.tup sm hT⟩, fun D nD => ?_⟩
      refine lc_tup (xs := ws.map V.str) (fun j H2 => Same H' H2 ∧ H2 D = some (.lst ((((ws.take j).filter fun y => suf (TL.tl y) (TL.tl r)).map fun y => cnt (Ws ws) ((TL.tl z).take (i + 1 - y.length))).map iN))) ⟨Same.new (Same.refl H') nD, by rw [upd_same]; rfl⟩ (fun j H2 _ hP => Same.tup (sm.trans hP.1) hT) (fun j x H2 hx hP => ?_) (fun H2 hP => ?_)
      · obtain ⟨sm2, hl⟩ := hP
        rw [List.getElem?_map] at hx
        cases hw : ws[j]? with
        | none =>
          rw [hw] at hx
          cases hx
        | some y =>
          rw [hw] at hx
          cases Option.some.inj hx
          have hyw := hg.word y (List.mem_of_getElem? hw)
          have h6 := hg.six
          have hC2 := sm2 _ _ hC
          refine ⟨rfl, _, rfl, ⟨_, rfl⟩, _, rfl, _, _, rfl, rfl, _, rfl, ?_⟩
          rw [ends_suf]
          have ef := filter_take (fun y => suf (TL.tl y) (TL.tl r)) hw
          by_cases hp : suf (TL.tl y) (TL.tl r) = true
          · rw [if_pos hp] at ef
            rw [hp]
            have hle := (of_decide_eq_true hp).1
            rw [hrl, ← TL.len_tl] at hle
            refine iteT ⟨_, rfl, _, rfl, _, rfl, y, rfl, by rw [sizeLine_eq]; omega, _, _, rfl, rfl, C, _, _, iN (cnt (Ws ws) ((TL.tl z).take (i + 1 - y.length))), rfl, rfl, SqL.of hC2, at_of (j := i + 1 - y.length) (by omega) ?_, _, hl, ?_, Same.put' sm2 nD, ?_⟩
            · rw [List.getElem?_map, List.getElem?_map, List.getElem?_range (by omega)]
              rfl
            · have := List.length_filter_le (fun y => suf (TL.tl y) (TL.tl r)) (ws.take j)
              rw [List.length_take] at this
              rw [List.length_map, List.length_map, sizeLine_eq]
              omega
            · rw [upd_same, ef, List.map_append, List.map_append]
              rfl
          · rw [if_neg hp, List.append_nil] at ef
            rw [show suf (TL.tl y) (TL.tl r) = false from by simpa using hp]
            exact iteF ⟨sm2, by rw [ef]; exact hl⟩
      · obtain ⟨sm2, hl⟩ := hP
        rw [List.length_map, List.take_length] at hl
        refine ⟨D, _, rfl, SqL.of (by rw [← iN_ints]; exact hl), ?_⟩
        rw [sum_ints, sum_filter]
        have hne : (TL.tl z).take (i + 1) ≠ [] := fun e => by
          rw [← er] at e
          rw [e] at hrl
          exact absurd hrl (by simp)
        have ec : sumL (fun y => if suf (TL.tl y) (TL.tl r) = true then cnt (Ws ws) ((TL.tl z).take (i + 1 - y.length)) else 0) ws = cnt (Ws ws) ((TL.tl z).take (i + 1)) := by
          rw [cnt_right hg.ne hne, sumL_mapped, er]
          refine sumL_congr fun y hy => ?_
          by_cases hp : suf (TL.tl y) ((TL.tl z).take (i + 1)) = true
          · rw [if_pos hp, if_pos hp, List.take_take, ← er, hrl, ← TL.len_tl, Nat.min_eq_left (Nat.sub_le _ _)]
          · rw [if_neg hp, if_neg hp]
        rw [ec]
        refine ⟨C, _, _, rfl, rfl, sm2 _ _ hC, ?_, _, _, rfl, Same.put' (sm.trans sm2) nC, ?_⟩
        · rw [List.length_map, List.length_map, List.length_range, sizeLine_eq]
          omega
        · rw [upd_same, List.range_succ (n := i + 1), List.map_append, List.map_append]
          rfl
    · obtain ⟨y3, y4, rfl, sm, hC⟩ := hP
      rw [show ((z.length : Int) + 1 - 1).toNat + 1 = (TL.tl z).length + 1 by omega] at hC
      exact ⟨_, rfl, q C H' sm nC hC⟩
theorem ok_through {f fa fb : Addr} {fd fda fdb : FuncData} (F : Fun K "counts_through" "counts_through" sThrough f fd) (GA : FnOk P w K mg base CX0 2 fa fda ["code", "string"] (spAhead K)) (kA : PySem.W.keepIn K (.ref fa) = true) (bA : Binds K fda ["code", "string"] []) (gA : mg "counts_ahead" = some (.ref fa))
    (GB : FnOk P w K mg base CX0 2 fb fdb ["code", "string"] (spBehind K)) (kB : PySem.W.keepIn K (.ref fb) = true) (bB : Binds K fdb ["code", "string"] []) (gB : mg "counts_behind" = some (.ref fb)) (mz : mg "zip" = none) : FnOk P w K mg base CX0 4 f fd ["code", "string"] (spThrough K) := by
  refine F.ok scThrough (fun vs H Q E h => ?_) (fun cdv A outer s H vs Q E hr h => ?_)
  · obtain ⟨a, ws, z, rfl, _⟩ := h
    rfl
  · obtain ⟨a, ws, z, rfl, hT, hg, hz, q⟩ := h
    have hz24 := hz.2
    have ez := TL.len_tl z
    refine ⟨_, (pss_cons (ps_set (i := 2) scThrough.nd rfl (.inl rfl) (pe_call GA (hr.mono (by decide)) (by rfl) gA kA bA .nil pass0 (pa_cons (pv 0) (pa_cons (pv 1) pa_nil))))
       (pss_cons (ps_set (i := 3) scThrough.nd rfl (.inl rfl) (pe_call GB (hr.mono (by decide)) (by rfl) gB kB bB .nil pass0 (pa_cons (pv 0) (pa_cons (pv 1) pa_nil))))
       (pss_one (ps_ret (pe_lc (own := [("before", 4), ("after", 5)]) (g := (gTup K 2 (gCons (gName 4) (gCons (gName 5) gNil)))) (tt := tYes) rfl scThrough.nd (pi_zip (by rfl) mz (pa_cons (pv 2) (pa_cons (pv 3) pa_nil))) (blkOk_by (own := [("before", 4), ("after", 5)]) (N := nThrough) (sc := defScope sThrough) (by decide +kernel)) (fun _ _ _ _ _ => (pg_tup (by rfl) (pgs_cons (pg_name (i := 4) scThrough.nd rfl (Or.inl rfl)) (pgs_cons (pg_name (i := 5) scThrough.nd rfl (Or.inl rfl)) pgs_nil)))) (fun _ _ _ _ _ => pts_nil) (fun _ _ _ _ _ => (pe_op op_mul (pv 4) (pv 5)))))))), ?_⟩
    refine ⟨_, rfl, _, rfl, a, ws, z, rfl, hT, hg, hz, fun A1 H1 s1 n1 h1 => ?_⟩
    refine ⟨_, rfl, _, rfl, a, ws, z, rfl, Same.tup s1 hT, hg, hz, fun B1 H2 s2 n2 h2 => ?_⟩
    have h1' := s2 _ _ h1
    refine ⟨_, rfl, _, rfl, A1, B1, _, _, rfl, SqL.of h1', SqL.of h2, fun D nD => ?_⟩
    have lA : ((ca (Ws ws) (TL.tl z)).map iN).length = z.length + 1 := by
      unfold ca
      rw [List.length_map, List.length_map, List.length_range, ez]
    have lB : ((cb (Ws ws) (TL.tl z)).map iN).length = z.length + 1 := by rw [List.length_map, cb_len, ez]
    refine lc_it (walk_zip (xs := (ca (Ws ws) (TL.tl z)).map iN) (ys := (cb (Ws ws) (TL.tl z)).map iN) (n := z.length + 1) (by rw [lA, lB, Nat.min_self])) (fun i H' => Same H2 H' ∧ H' D = some (.lst (((List.range i).map (th (Ws ws) (TL.tl z))).map iN)))
      ⟨Same.new (Same.refl H2) nD, by rw [upd_same]; rfl⟩ (fun i H' _ hP => ⟨SqL.of (hP.1 _ _ h1'), SqL.of (hP.1 _ _ h2)⟩) (fun i v H' H3 hi hP hy => ?_) (fun H' hP => ?_)
    · obtain ⟨sm, hl⟩ := hP
      obtain ⟨T, x, y, rfl, nT, rfl, hx, hy⟩ := hy
      have ex : x = iN (cnt (Ws ws) ((TL.tl z).take i)) := by
        have hx : ((ca (Ws ws) (TL.tl z)).map iN)[i]? = some x := hx
        rw [List.getElem?_map, ca, List.getElem?_map, List.getElem?_range (by omega)] at hx
        exact (Option.some.inj hx).symm
      have ey : y = iN (cnt (Ws ws) ((TL.tl z).drop i)) := by
        have hy : ((cb (Ws ws) (TL.tl z)).map iN)[i]? = some y := hy
        rw [List.getElem?_map, cb_get _ _ i (by omega)] at hy
        exact (Option.some.inj hy).symm
      subst ex ey
      have smT := Same.new (o := .tup [iN (cnt (Ws ws) ((TL.tl z).take i)), iN (cnt (Ws ws) ((TL.tl z).drop i))]) sm nT
      have hlT : (upd H' T (.tup [iN (cnt (Ws ws) ((TL.tl z).take i)), iN (cnt (Ws ws) ((TL.tl z).drop i))])) D = some (.lst (((List.range i).map (th (Ws ws) (TL.tl z))).map iN)) := Same.new (Same.refl H') nT _ _ hl
      refine ⟨T, _, rfl, SqT.of upd_same, rfl, _, _, rfl, _, [], rfl, rfl, rfl, tYes_ok ?_⟩
      refine ⟨_, rfl, _, rfl, _, _, rfl, rfl, .inl ⟨by omega, ?_⟩, _, hlT, ?_, Same.put' smT nD, ?_⟩
      · have hb := cnt_bound hg.ne hg.len 24 ((TL.tl z).take i) (by rw [List.length_take]; omega)
        have : (6 : Nat) ^ 24 < 2 ^ 64 := by decide +kernel
        omega
      · rw [List.length_map, List.length_map, List.length_range, sizeLine_eq]
        omega
      · rw [upd_same, List.range_succ, List.map_append, List.map_append]
        show some (HO.lst (_ ++ [V.int _])) = some (HO.lst (_ ++ [V.int ((th (Ws ws) (TL.tl z) i : Nat) : Int)]))
        unfold th
        rw [Int.natCast_mul]
    · obtain ⟨sm, hl⟩ := hP
      exact q D H' (s1.trans (s2.trans sm)) (by
        cases e : H D with
        | none => rfl
        | some u =>
          rw [s2 _ _ (s1 _ _ e)] at nD
          cases nD) hl
theorem filter_range (p : Nat → Bool) (i : Nat) : (List.range (i + 1)).filter p = (List.range i).filter p ++ (if p i = true then [i] else []) := by
  rw [List.range_succ, List.filter_append]
  congr 1
  rw [List.filter_cons]
  rfl
theorem ok_bounds {f fc fs ft : Addr} {fd fdc fds fdt : FuncData} (F : Fun K "boundaries" "boundaries" sBounds f fd) (GC : FnOk P w K mg base CX0 4 fc fdc ["value", "name"] (spChkC K)) (kC : PySem.W.keepIn K (.ref fc) = true) (bC : Binds K fdc ["value", "name"] []) (gC : mg "check_code" = some (.ref fc))
    (GS : FnOk P w K mg base CX0 4 fs fds ["value", "name"] spChkS) (kS : PySem.W.keepIn K (.ref fs) = true) (bS : Binds K fds ["value", "name"] []) (gS : mg "check_string" = some (.ref fs))
    (GT : FnOk P w K mg base CX0 4 ft fdt ["code", "string"] (spThrough K)) (kT : PySem.W.keepIn K (.ref ft) = true) (bT : Binds K fdt ["code", "string"] []) (gT : mg "counts_through" = some (.ref ft)) (me : mg "enumerate" = none) (mt : mg "tuple" = none) :
    FnOk P w K mg base CX0 5 f fd ["code", "string"] (spBounds K) := by
  refine F.ok scBounds (fun vs H Q E h => ?_) (fun cdv A outer s H vs Q E hr h => ?_)
  · obtain ⟨a, ws, z, rfl, _⟩ := h
    rfl
  · obtain ⟨a, ws, z, rfl, hT, hg, hz, q⟩ := h
    have hr3 : Room 4 _ := hr.mono (by decide)
    have hz24 := hz.2
    refine ⟨_, (pss_cons (ps_expr (pe_call GC (hr.mono (by decide)) (by rfl) gC kC bC .nil pass0 (pa_cons (pv 0) (pa_cons pe_str pa_nil))))
       (pss_cons (ps_expr (pe_call GS (hr.mono (by decide)) (by rfl) gS kS bS .nil pass0 (pa_cons (pv 1) (pa_cons pe_str pa_nil))))
       (pss_cons (ps_set (i := 2) scBounds.nd rfl (.inl rfl) (pe_call GT (hr.mono (by decide)) (by rfl) gT kT bT .nil pass0 (pa_cons (pv 0) (pa_cons (pv 1) pa_nil))))
       (pss_one (ps_ret (pe_callTy call_tuple_of (by rfl) mt (by decide +kernel) (pa_cons (pe_lc (own := [("place", 3), ("many", 4)]) (g := (gTup K 2 (gCons (gName 3) (gCons (gName 4) gNil)))) rfl scBounds.nd (pi_enum (by rfl) me (pa_cons (pv 2) pa_nil)) (blkOk_by (own := [("place", 3), ("many", 4)]) (N := nBounds) (sc := defScope sBounds) (by decide +kernel)) (fun _ _ _ _ _ => (pg_tup (by rfl) (pgs_cons (pg_name (i := 3) scBounds.nd rfl (Or.inl rfl)) (pgs_cons (pg_name (i := 4) scBounds.nd rfl (Or.inl rfl)) pgs_nil)))) (fun _ _ _ _ _ => (pts_one (pt_cmpR op_gt (pv 4) pe_int (nomark _)))) (fun _ _ _ _ _ => (pv 3))) pa_nil))))))), ?_⟩
    refine ⟨_, rfl, a, ws, _, rfl, hT, hg, fun H1 s1 => ?_⟩
    refine ⟨_, rfl, z, _, rfl, hz, fun H2 s2 => ?_⟩
    refine ⟨_, rfl, _, rfl, a, ws, z, rfl, Same.tup (s1.trans s2) hT, hg, hz, fun A1 H3 s3 n3 h3 => ?_⟩
    refine ⟨_, rfl, A1, _, rfl, SqL.of h3, fun D nD => ?_⟩
    have hl1 : (((List.range (z.length + 1)).map (th (Ws ws) (TL.tl z))).map iN).length = z.length + 1 := by rw [List.length_map, List.length_map, List.length_range]
    refine lc_it (walk_enum (xs := ((List.range (z.length + 1)).map (th (Ws ws) (TL.tl z))).map iN)) (fun i H' => Same H3 H' ∧ H' D = some (.lst (((List.range i).filter fun k => decide (0 < th (Ws ws) (TL.tl z) k)).map iN)))
      ⟨Same.new (Same.refl H3) nD, by rw [upd_same]; rfl⟩ (fun i H' _ hP => SqL.of (hP.1 _ _ h3)) (fun i v H' H4 hi hP hy => ?_) (fun H' hP => ?_)
    · obtain ⟨sm, hl⟩ := hP
      obtain ⟨T, x, y, rfl, nT, rfl, hx, hy⟩ := hy
      rw [hl1] at hi
      cases Option.some.inj hx
      have ey : y = iN (th (Ws ws) (TL.tl z) i) := by
        have hy : (((List.range (z.length + 1)).map (th (Ws ws) (TL.tl z))).map iN)[i]? = some y := hy
        rw [List.getElem?_map, List.getElem?_map, List.getElem?_range (by omega)] at hy
        exact (Option.some.inj hy).symm
      subst ey
      have smT := Same.new (o := .tup [V.int (i : Nat), iN (th (Ws ws) (TL.tl z) i)]) sm nT
      have hlT := Same.new (o := .tup [V.int (i : Nat), iN (th (Ws ws) (TL.tl z) i)]) (Same.refl H') nT _ _ hl
      have hlen : (((List.range i).filter fun k => decide (0 < th (Ws ws) (TL.tl z) k)).map iN).length < sizeLine := by
        have := List.length_filter_le (fun k => decide (0 < th (Ws ws) (TL.tl z) k)) (List.range i)
        rw [List.length_range] at this
        rw [List.length_map, sizeLine_eq]
        omega
      refine ⟨T, _, rfl, SqT.of upd_same, rfl, _, _, rfl, _, [], rfl, rfl, rfl, _, rfl, _, 0, rfl, rfl, _, rfl, ?_⟩
      by_cases h0 : 0 < th (Ws ws) (TL.tl z) i
      · rw [decide_eq_true (show (0 : Int) < ((th (Ws ws) (TL.tl z) i : Nat) : Int) by omega)]
        refine iteT ⟨_, rfl, _, hlT, hlen, Same.put' smT nD, ?_⟩
        rw [upd_same, filter_range, decide_eq_true h0, if_pos rfl, List.map_append]
        rfl
      · rw [decide_eq_false (show ¬ (0 : Int) < ((th (Ws ws) (TL.tl z) i : Nat) : Int) by omega)]
        refine iteF ⟨smT, ?_⟩
        rw [filter_range, decide_eq_false h0, if_neg Bool.false_ne_true, List.append_nil]
        exact hlT
    · obtain ⟨sm, hl⟩ := hP
      rw [hl1] at hl
      exact ⟨D, _, rfl, .inl ⟨SqL.of hl, fun c nc => q c _ (s1.trans (s2.trans (s3.trans (Same.new sm nc)))) (SqT.of upd_same)⟩⟩
theorem ok_common {f fc fs ft : Addr} {fd fdc fds fdt : FuncData} (F : Fun K "common_boundaries" "common_boundaries" sCommon f fd) (GC : FnOk P w K mg base CX0 4 fc fdc ["value", "name"] (spChkC K)) (kC : PySem.W.keepIn K (.ref fc) = true) (bC : Binds K fdc ["value", "name"] []) (gC : mg "check_code" = some (.ref fc))
    (GS : FnOk P w K mg base CX0 4 fs fds ["value", "name"] spChkS) (kS : PySem.W.keepIn K (.ref fs) = true) (bS : Binds K fds ["value", "name"] []) (gS : mg "check_string" = some (.ref fs))
    (GT : FnOk P w K mg base CX0 4 ft fdt ["code", "string"] (spThrough K)) (kT : PySem.W.keepIn K (.ref ft) = true) (bT : Binds K fdt ["code", "string"] []) (gT : mg "counts_through" = some (.ref ft)) (me : mg "enumerate" = none) (mt : mg "tuple" = none) :
    FnOk P w K mg base CX0 5 f fd ["code", "string"] (spCommon K) := by
  refine F.ok scCommon (fun vs H Q E h => ?_) (fun cdv A outer s H vs Q E hr h => ?_)
  · obtain ⟨a, ws, z, rfl, _⟩ := h
    rfl
  · obtain ⟨a, ws, z, rfl, hT, hg, hz, hm, q⟩ := h
    have hr3 : Room 4 _ := hr.mono (by decide)
    have hz24 := hz.2
    refine ⟨_, (pss_cons (ps_expr (pe_call GC (hr.mono (by decide)) (by rfl) gC kC bC .nil pass0 (pa_cons (pv 0) (pa_cons pe_str pa_nil))))
       (pss_cons (ps_expr (pe_call GS (hr.mono (by decide)) (by rfl) gS kS bS .nil pass0 (pa_cons (pv 1) (pa_cons pe_str pa_nil))))
       (pss_cons (ps_set (i := 2) scCommon.nd rfl (.inl rfl) (pe_call GT (hr.mono (by decide)) (by rfl) gT kT bT .nil pass0 (pa_cons (pv 0) (pa_cons (pv 1) pa_nil))))
       (pss_cons (ps_set (i := 3) scCommon.nd rfl (.inr rfl) (pe_ix (r := rIxL K) ix_list (pv 2) pe_int (fun _ _ => rfl)))
       (pss_cons (ps_if (pt_cmpR op_eq (pv 3) pe_int (nomark _)) pss_never pss_nil)
       (pss_one (ps_ret (pe_callTy call_tuple_of (by rfl) mt (by decide +kernel) (pa_cons (pe_lc (own := [("place", 4), ("many", 5)]) (g := (gTup K 2 (gCons (gName 4) (gCons (gName 5) gNil)))) rfl scCommon.nd (pi_enum (by rfl) me (pa_cons (pv 2) pa_nil)) (blkOk_by (own := [("place", 4), ("many", 5)]) (N := nCommon) (sc := defScope sCommon) (by decide +kernel)) (fun _ _ _ _ _ => (pg_tup (by rfl) (pgs_cons (pg_name (i := 4) scCommon.nd rfl (Or.inl rfl)) (pgs_cons (pg_name (i := 5) scCommon.nd rfl (Or.inl rfl)) pgs_nil)))) (fun _ _ _ _ _ => (pts_one (pt_cmpR op_eq (pv 5) (pv 3) (nomark _)))) (fun _ _ _ _ _ => (pv 4))) pa_nil))))))))), ?_⟩
    refine ⟨_, rfl, a, ws, _, rfl, hT, hg, fun H1 s1 => ?_⟩
    refine ⟨_, rfl, z, _, rfl, hz, fun H2 s2 => ?_⟩
    refine ⟨_, rfl, _, rfl, a, ws, z, rfl, Same.tup (s1.trans s2) hT, hg, hz, fun A1 H3 s3 n3 h3 => ?_⟩
    have e0 : th (Ws ws) (TL.tl z) 0 = cnt (Ws ws) (TL.tl z) := by
      unfold th
      rw [List.take_zero, List.drop_zero, SyM.cnt_nil, Nat.one_mul]
    refine ⟨_, rfl, A1, _, 0, iN (cnt (Ws ws) (TL.tl z)), rfl, rfl, SqL.of h3, atI_nat (j := 0) ?_, ?_⟩
    · rw [List.getElem?_map, List.getElem?_map, List.getElem?_range (by omega)]
      show some (iN (th (Ws ws) (TL.tl z) 0)) = _
      rw [e0]
    refine ⟨_, rfl, rfl, _, rfl, ?_⟩
    rw [decide_eq_false (show ¬ (iN (cnt (Ws ws) (TL.tl z)) = V.int 0) from fun e => by injection e with e; omega)]
    refine iteF ?_
    refine ⟨_, rfl, A1, _, rfl, SqL.of h3, fun D nD => ?_⟩
    have hl1 : (((List.range (z.length + 1)).map (th (Ws ws) (TL.tl z))).map iN).length = z.length + 1 := by rw [List.length_map, List.length_map, List.length_range]
    refine lc_it (walk_enum (xs := ((List.range (z.length + 1)).map (th (Ws ws) (TL.tl z))).map iN)) (fun i H' => Same H3 H' ∧ H' D = some (.lst (((List.range i).filter fun k => decide (th (Ws ws) (TL.tl z) k = cnt (Ws ws) (TL.tl z))).map iN)))
      ⟨Same.new (Same.refl H3) nD, by rw [upd_same]; rfl⟩ (fun i H' _ hP => SqL.of (hP.1 _ _ h3)) (fun i v H' H4 hi hP hy => ?_) (fun H' hP => ?_)
    · obtain ⟨sm, hl⟩ := hP
      obtain ⟨T, x, y, rfl, nT, rfl, hx, hy⟩ := hy
      rw [hl1] at hi
      cases Option.some.inj hx
      have ey : y = iN (th (Ws ws) (TL.tl z) i) := by
        have hy : (((List.range (z.length + 1)).map (th (Ws ws) (TL.tl z))).map iN)[i]? = some y := hy
        rw [List.getElem?_map, List.getElem?_map, List.getElem?_range (by omega)] at hy
        exact (Option.some.inj hy).symm
      subst ey
      have smT := Same.new (o := .tup [V.int (i : Nat), iN (th (Ws ws) (TL.tl z) i)]) sm nT
      have hlT := Same.new (o := .tup [V.int (i : Nat), iN (th (Ws ws) (TL.tl z) i)]) (Same.refl H') nT _ _ hl
      have hlen : (((List.range i).filter fun k => decide (th (Ws ws) (TL.tl z) k = cnt (Ws ws) (TL.tl z))).map iN).length < sizeLine := by
        have := List.length_filter_le (fun k => decide (th (Ws ws) (TL.tl z) k = cnt (Ws ws) (TL.tl z))) (List.range i)
        rw [List.length_range] at this
        rw [List.length_map, sizeLine_eq]
        omega
      refine ⟨T, _, rfl, SqT.of upd_same, rfl, _, _, rfl, _, [], rfl, rfl, rfl, _, rfl, _, rfl, rfl, _, rfl, ?_⟩
      by_cases h0 : th (Ws ws) (TL.tl z) i = cnt (Ws ws) (TL.tl z)
      · rw [decide_eq_true (show iN (th (Ws ws) (TL.tl z) i) = iN (cnt (Ws ws) (TL.tl z)) by rw [h0])]
        refine iteT ⟨_, rfl, _, hlT, hlen, Same.put' smT nD, ?_⟩
        rw [upd_same, filter_range, decide_eq_true h0, if_pos rfl, List.map_append]
        rfl
      · rw [decide_eq_false (show ¬ iN (th (Ws ws) (TL.tl z) i) = iN (cnt (Ws ws) (TL.tl z)) from fun e => h0 (by injection e with e; omega))]
        refine iteF ⟨smT, ?_⟩
        rw [filter_range, decide_eq_false h0, if_neg Bool.false_ne_true, List.append_nil]
        exact hlT
    · obtain ⟨sm, hl⟩ := hP
      rw [hl1] at hl
      exact ⟨D, _, rfl, .inl ⟨SqL.of hl, fun c nc => q c _ (s1.trans (s2.trans (s3.trans (Same.new sm nc)))) (SqT.of upd_same)⟩⟩
end
end Sy
/-! Syncedwords: parses by their index, and the index of a parse. -/
namespace Sy
open PySem PySem.Spec PyProof.Rows L2 SyM
open C8 (pss_cut tCut)
abbrev sInteger : Stmt := topS 14
abbrev sNumber : Stmt := topS 15
abbrev sParseAt : Stmt := topS 28
abbrev sChkN : Stmt := topS 18
abbrev sIsParse : Stmt := topS 20
abbrev sJoined : Stmt := topS 21
abbrev sStringOf : Stmt := topS 22
abbrev sNth : Stmt := topS 29
abbrev sIndex : Stmt := topS 30
theorem scInteger : FnScope ["value"] ["value"] (defScope sInteger) := ⟨rfl, rfl, rfl, by decide +kernel, rfl, by decide +kernel, by decide +kernel⟩
theorem scParseAt : FnScope ["code", "string", "counts", "index", "parse", "place", "left", "many", "number"] ["code", "string", "counts", "index"] (defScope sParseAt) := ⟨rfl, rfl, rfl, by decide +kernel, rfl, by decide +kernel, by decide +kernel⟩
theorem scNumber : FnScope ["value", "least", "most"] ["value", "least", "most"] (defScope sNumber) := ⟨rfl, rfl, rfl, by decide +kernel, rfl, by decide +kernel, by decide +kernel⟩
theorem scChkN : FnScope ["value", "least", "most", "name"] ["value", "least", "most", "name"] (defScope sChkN) := ⟨rfl, rfl, rfl, by decide +kernel, rfl, by decide +kernel, by decide +kernel⟩
abbrev nIsParse : List Str := ["code", "value", "number"]
theorem scIsParse : FnScope nIsParse ["code", "value"] (defScope sIsParse) := ⟨rfl, rfl, rfl, by decide +kernel, rfl, by decide +kernel, by decide +kernel⟩
abbrev nJoined : List Str := ["code", "parse", "number"]
theorem scJoined : FnScope nJoined ["code", "parse"] (defScope sJoined) := ⟨rfl, rfl, rfl, by decide +kernel, rfl, by decide +kernel, by decide +kernel⟩
theorem scString2 : FnScope ["code", "parse", "string"] ["code", "parse"] (defScope sStringOf) := ⟨rfl, rfl, rfl, by decide +kernel, rfl, by decide +kernel, by decide +kernel⟩
theorem scNth : FnScope ["code", "string", "index", "counts"] ["code", "string", "index"] (defScope sNth) := ⟨rfl, rfl, rfl, by decide +kernel, rfl, by decide +kernel, by decide +kernel⟩
theorem scIndex : FnScope ["code", "parse", "string", "counts", "index", "place", "number"] ["code", "parse"] (defScope sIndex) := ⟨rfl, rfl, rfl, by decide +kernel, rfl, by decide +kernel, by decide +kernel⟩

def spNumber : Sp := fun vs H Q _ => ∃ (i lo hi : Int), vs = [.int i, .int lo, .int hi] ∧ Q (.bl (decide (lo ≤ i ∧ i ≤ hi))) H
def spChkN : Sp := fun vs H Q _ => ∃ (i lo hi : Int) (n : V), vs = [.int i, .int lo, .int hi, n] ∧ lo ≤ i ∧ i ≤ hi ∧ Q .non H
/-- numbers of words -/
def Nums (ws : List Str) (ps : List Nat) : Prop := ∀ j ∈ ps, j < ws.length
def spIsParse (K : PySem.W.Frag) : Sp := fun vs H Q _ => ∃ (a p : Addr) (ws : List Str) (ps : List Nat), vs = [.ref a, .ref p] ∧ SqT K H a (ws.map V.str) ∧ ws.length ≤ 6 ∧ SqT K H p (ps.map iN) ∧ ps.length ≤ 1000 ∧ Nums ws ps ∧ ∀ H', Same H H' → Q (.bl true) H'
def spJoined (K : PySem.W.Frag) : Sp := fun vs H Q _ => ∃ (a p : Addr) (ws : List Str) (ps : List Nat), vs = [.ref a, .ref p] ∧ SqT K H a (ws.map V.str) ∧ (∀ z ∈ ws, z.length ≤ 5) ∧ SqT K H p (ps.map iN) ∧ ps.length ≤ 1000 ∧ Nums ws ps ∧
  ∀ z H', Same H H' → TL.tl z = join (Ws ws) ps → Q (.str z) H'
def spStringOf (K : PySem.W.Frag) : Sp := fun vs H Q _ => ∃ (a p : Addr) (ws : List Str) (ps : List Nat), vs = [.ref a, .ref p] ∧ SqT K H a (ws.map V.str) ∧ GoodC ws ∧ SqT K H p (ps.map iN) ∧ ps.length ≤ 1000 ∧ Nums ws ps ∧ (join (Ws ws) ps).length ≤ 24 ∧
  ∀ z H', Same H H' → TL.tl z = join (Ws ws) ps → Q (.str z) H'
def spNth (K : PySem.W.Frag) : Sp := fun vs H Q _ => ∃ (a : Addr) (ws : List Str) (z : Str) (i : Nat), vs = [.ref a, .str z, iN i] ∧ SqT K H a (ws.map V.str) ∧ GoodC ws ∧ GoodS z ∧ i < cnt (Ws ws) (TL.tl z) ∧
  ∀ p H', Same H H' → SqT K H' p ((nth (Ws ws) 24 (TL.tl z) i).map iN) → Q (.ref p) H'
def spParseAt (K : PySem.W.Frag) : Sp := fun vs H Q _ => ∃ (a C : Addr) (ws : List Str) (z : Str) (i : Nat), vs = [.ref a, .str z, .ref C, iN i] ∧ SqT K H a (ws.map V.str) ∧ GoodC ws ∧ GoodS z ∧ H C = some (.lst ((cb (Ws ws) (TL.tl z)).map iN)) ∧ i < cnt (Ws ws) (TL.tl z) ∧
  ∀ p H', Same H H' → SqT K H' p ((nth (Ws ws) 24 (TL.tl z) i).map iN) → Q (.ref p) H'
def spIndex (K : PySem.W.Frag) : Sp := fun vs H Q _ => ∃ (a p : Addr) (ws : List Str) (ps : List Nat), vs = [.ref a, .ref p] ∧ SqT K H a (ws.map V.str) ∧ GoodC ws ∧ SqT K H p (ps.map iN) ∧ ps.length ≤ 1000 ∧ Nums ws ps ∧ Lets 3 ⟨(join (Ws ws) ps).toArray⟩ ∧ (join (Ws ws) ps).length ≤ 24 ∧
  ∀ H', Same H H' → Q (iN (idx (Ws ws) (join (Ws ws) ps) ps)) H'
theorem nums_get {ws : List Str} {ps : List Nat} (h : Nums ws ps) {i j : Nat} (e : ps[i]? = some j) : ∃ y, ws[j]? = some y := ⟨_, List.getElem?_eq_getElem (h j (List.mem_of_getElem? e))⟩
theorem join_flat {W : List (List Nat)} : ∀ ps : List Nat, join W ps = (ps.map fun j => W.getD j []).flatten
  | [] => rfl
  | j :: ps => by rw [join, join_flat ps, List.map_cons, List.flatten_cons]
theorem join_take {W : List (List Nat)} {ps : List Nat} {i j : Nat} (h : ps[i]? = some j) : join W (ps.take (i + 1)) = join W (ps.take i) ++ W.getD j [] := by
  rw [join_flat, join_flat, List.take_add_one, h, List.map_append, List.flatten_append]
  congr 1
  show (W.getD j [] ++ []) = _
  rw [List.append_nil]
theorem join_drop {W : List (List Nat)} {ps : List Nat} : ∀ {i : Nat}, join W ps = join W (ps.take i) ++ join W (ps.drop i) := fun {i} => by
  rw [join_flat, join_flat, join_flat, ← List.flatten_append, ← List.map_append, List.take_append_drop]
section
variable {P : Program} {w : World} {K : PySem.W.Frag} {mg : Str → Option Value} {base : Heap}
theorem ok_integer {f : Addr} {fd : FuncData} (F : Fun K "is_integer" "is_integer" sInteger f fd) (mi : mg "isinstance" = none) (mn : mg "int" = none) (mb : mg "bool" = none) : FnOk P w K mg base CX0 1 f fd ["value"] spIsInt := by
  refine F.ok scInteger (fun vs H Q E h => ?_) (fun cdv A outer s H vs Q E hr h => ?_)
  · obtain ⟨i, rfl, _⟩ := h
    rfl
  · obtain ⟨i, rfl, q⟩ := h
    refine ⟨_, (pss_one (ps_ret (pe_and (pe_callB call_isi (by rfl) mi (by decide +kernel) (pa_cons (pv 0) (pa_cons (pe_bltn (v := .ty "int") (by rfl) mn (by decide +kernel) rfl) pa_nil))) (pe_one (pe_not (pe_callB call_isi (by rfl) mi (by decide +kernel) (pa_cons (pv 0) (pa_cons (pe_bltn (v := .ty "bool") (by rfl) mb (by decide +kernel) rfl) pa_nil)))))))), ?_⟩
    exact ⟨_, rfl, _, _, _, _, true, rfl, .ty "int", .base (.int i), kit_ty (by decide +kernel), true, rfl, iteT ⟨_, rfl, _, _, _, _, false, rfl, .ty "bool", .base (.int i), kit_ty (by decide +kernel), false, rfl, q⟩⟩
theorem ok_number {f fi : Addr} {fd fdi : FuncData} (F : Fun K "is_number" "is_number" sNumber f fd) (GI : FnOk P w K mg base CX0 1 fi fdi ["value"] spIsInt) (kI : PySem.W.keepIn K (.ref fi) = true) (bI : Binds K fdi ["value"] []) (gI : mg "is_integer" = some (.ref fi)) : FnOk P w K mg base CX0 2 f fd ["value", "least", "most"] spNumber := by
  refine F.ok scNumber (fun vs H Q E h => ?_) (fun cdv A outer s H vs Q E hr h => ?_)
  · obtain ⟨i, lo, hi, rfl, _⟩ := h
    rfl
  · obtain ⟨i, lo, hi, rfl, q⟩ := h
    refine ⟨_, (pss_one (ps_ret (pe_and (pe_call GI (hr.mono (by decide)) (by rfl) gI kI bI .nil pass0 (pa_cons (pv 0) pa_nil)) (pe_one (pe_chain op_le op_le (pv 1) (pv 0) (pv 2)))))), ?_⟩
    refine ⟨_, rfl, i, rfl, true, rfl, iteT ?_⟩
    refine ⟨_, rfl, _, rfl, _, _, rfl, rfl, _, rfl, ?_⟩
    by_cases h1 : lo ≤ i
    · rw [decide_eq_true h1]
      refine iteT ⟨_, rfl, _, _, rfl, rfl, ?_⟩
      show Q (V.bl (decide (i ≤ hi))) H
      by_cases h2 : i ≤ hi
      · rw [decide_eq_true h2]
        rw [decide_eq_true ⟨h1, h2⟩] at q
        exact q
      · rw [decide_eq_false h2]
        rw [decide_eq_false fun z => h2 z.2] at q
        exact q
    · rw [decide_eq_false h1]
      rw [decide_eq_false fun z => h1 z.1] at q
      exact iteF q
theorem ok_chkn {f fn : Addr} {fd fdn : FuncData} (F : Fun K "check_number" "check_number" sChkN f fd) (GN : FnOk P w K mg base CX0 2 fn fdn ["value", "least", "most"] spNumber) (kN : PySem.W.keepIn K (.ref fn) = true) (bN : Binds K fdn ["value", "least", "most"] []) (gN : mg "is_number" = some (.ref fn)) :
    FnOk P w K mg base CX0 3 f fd ["value", "least", "most", "name"] spChkN := by
  refine F.ok scChkN (fun vs H Q E h => ?_) (fun cdv A outer s H vs Q E hr h => ?_)
  · obtain ⟨i, lo, hi, n, rfl, _⟩ := h
    rfl
  · obtain ⟨i, lo, hi, n, rfl, h1, h2, q⟩ := h
    refine ⟨_, (pss_one (ps_if (pt_not (pt_val (pe_call GN (hr.mono (by decide)) (by rfl) gN kN bN .nil pass0 (pa_cons (pv 0) (pa_cons (pv 1) (pa_cons (pv 2) pa_nil)))))) pss_never pss_nil)), ?_⟩
    refine ⟨_, rfl, _, rfl, _, rfl, i, lo, hi, rfl, ?_⟩
    rw [decide_eq_true ⟨h1, h2⟩]
    exact ⟨true, rfl, iteF q⟩
theorem ok_isparse {f fn : Addr} {fd fdn : FuncData} (F : Fun K "is_parse" "is_parse" sIsParse f fd) (GN : FnOk P w K mg base CX0 2 fn fdn ["value", "least", "most"] spNumber) (kN : PySem.W.keepIn K (.ref fn) = true) (bN : Binds K fdn ["value", "least", "most"] []) (gN : mg "is_number" = some (.ref fn))
    (mi : mg "isinstance" = none) (mt : mg "tuple" = none) (ma : mg "all" = none) (ml : mg "len" = none) : FnOk P w K mg base CX0 3 f fd ["code", "value"] (spIsParse K) := by
  refine F.ok scIsParse (fun vs H Q E h => ?_) (fun cdv A outer s H vs Q E hr h => ?_)
  · obtain ⟨a, p, ws, ps, rfl, _⟩ := h
    rfl
  · obtain ⟨a, p, ws, ps, rfl, hT, h6, hP, hl, hn, q⟩ := h
    refine ⟨_, (pss_cons (ps_if (pt_not (pt_val (pe_callB call_isi (by rfl) mi (by decide +kernel) (pa_cons (pv 1) (pa_cons (pe_bltn (v := .ty "tuple") (by rfl) mt (by decide +kernel) rfl) pa_nil))))) pss_never pss_nil)
       (pss_one (ps_ret (pe_callB (cr_all rfl) (by rfl) ma (by decide +kernel) (pa_cons (pe_lc (own := [("number", 2)]) (g := (gName 2)) (tt := tYes) rfl scIsParse.nd (pi_tup (pv 1)) (blkOk_by (own := [("number", 2)]) (N := nIsParse) (sc := defScope sIsParse) (by decide +kernel)) (fun _ _ _ _ _ => (pg_name (i := 2) scIsParse.nd rfl (Or.inl rfl))) (fun _ _ _ _ _ => pts_nil) (fun _ _ _ _ _ => (pe_call GN (hr.mono (by decide)) (by rfl) gN kN bN .nil pass0 (pa_cons (pv 2) (pa_cons pe_int (pa_cons (pe_op op_sub (pe_callB (r := rLenSy K) call_lenSy (by rfl) ml PySem.boot_len (pa_cons (pv 0) pa_nil)) pe_int) pa_nil)))))) pa_nil))))), ?_⟩
    refine ⟨_, rfl, _, _, _, _, true, rfl, .ty "tuple", ty_tup hP, kit_ty (by decide +kernel), _, rfl, iteF ?_⟩
    refine ⟨_, rfl, p, rfl, ⟨_, hP⟩, fun D nD => ?_⟩
    refine lc_tup (xs := ps.map iN) (fun i H' => Same H H' ∧ H' D = some (.lst ((List.replicate i true).map V.bl))) ⟨Same.new (Same.refl H) nD, by rw [upd_same]; rfl⟩ (fun i H' _ h => Same.tup h.1 hP) (fun i x H' hx h => ?_) (fun H' h => ?_)
    · obtain ⟨sm, hD⟩ := h
      rw [List.getElem?_map] at hx
      cases hj : ps[i]? with
      | none =>
        rw [hj] at hx
        cases hx
      | some j =>
        rw [hj] at hx
        cases Option.some.inj hx
        have hjl := hn j (List.mem_of_getElem? hj)
        have hil := (List.getElem?_eq_some_iff.mp hj).1
        refine ⟨rfl, tYes_ok ⟨_, rfl, _, rfl, a, _, rfl, .inr (Same.tup sm hT), _, 1, rfl, rfl, _, 0, _, rfl, ?_⟩⟩
        rw [List.length_map, decide_eq_true (show (0 : Int) ≤ (j : Nat) ∧ ((j : Nat) : Int) ≤ (ws.length : Int) - 1 by omega)]
        refine ⟨_, hD, ?_, Same.put' sm nD, by rw [upd_same, List.replicate_succ', List.map_append]; rfl⟩
        rw [List.length_map, List.length_replicate, sizeLine_eq]
        omega
    · obtain ⟨sm, hD⟩ := h
      refine ⟨D, _, rfl, SqL.of hD, ?_⟩
      rw [show (List.replicate (ps.map iN).length true).all id = true from List.all_eq_true.mpr fun z hz => by rw [List.eq_of_mem_replicate hz]; rfl]
      exact q _ sm
theorem ok_joined {f : Addr} {fd : FuncData} (F : Fun K "joined" "joined" sJoined f fd) : FnOk P w K mg base CX0 1 f fd ["code", "parse"] (spJoined K) := by
  refine F.ok scJoined (fun vs H Q E h => ?_) (fun cdv A outer s H vs Q E hr h => ?_)
  · obtain ⟨a, p, ws, ps, rfl, _⟩ := h
    rfl
  · obtain ⟨a, p, ws, ps, rfl, hT, h5, hP, hl, hn, q⟩ := h
    refine ⟨_, (pss_one (ps_ret (pe_join pe_str (pe_lc (own := [("number", 2)]) (g := (gName 2)) (tt := tYes) rfl scJoined.nd (pi_tup (pv 1)) (blkOk_by (own := [("number", 2)]) (N := nJoined) (sc := defScope sJoined) (by decide +kernel)) (fun _ _ _ _ _ => (pg_name (i := 2) scJoined.nd rfl (Or.inl rfl))) (fun _ _ _ _ _ => pts_nil) (fun _ _ _ _ _ => (pe_ix (r := rIxT K) ix_tup (pv 0) (pv 2) (fun _ _ => rfl))))))), ?_⟩
    refine ⟨⟨_, rfl⟩, _, rfl, p, rfl, ⟨_, hP⟩, fun D nD => ?_⟩
    refine lc_tup (xs := ps.map iN) (fun i H' => Same H H' ∧ H' D = some (.lst (((ps.take i).map fun j => ws.getD j "").map V.str))) ⟨Same.new (Same.refl H) nD, by rw [upd_same]; rfl⟩ (fun i H' _ h => Same.tup h.1 hP) (fun i x H' hx h => ?_) (fun H' h => ?_)
    · obtain ⟨sm, hD⟩ := h
      rw [List.getElem?_map] at hx
      cases hj : ps[i]? with
      | none =>
        rw [hj] at hx
        cases hx
      | some j =>
        rw [hj] at hx
        cases Option.some.inj hx
        obtain ⟨y, hy⟩ := nums_get hn hj
        have hil := (List.getElem?_eq_some_iff.mp hj).1
        refine ⟨rfl, tYes_ok ⟨_, rfl, _, rfl, a, _, _, .str y, rfl, rfl, Same.tup sm hT, atI_nat (j := j) ?_, _, hD, ?_, Same.put' sm nD, ?_⟩⟩
        · rw [List.getElem?_map, hy]
          rfl
        · rw [List.length_map, List.length_map, List.length_take, sizeLine_eq]
          omega
        · rw [upd_same, List.take_add_one, hj, List.map_append, List.map_append]
          show _ = some (HO.lst (_ ++ [V.str (ws.getD j "")]))
          rw [List.getD_eq_getElem?_getD, hy]
          rfl
    · obtain ⟨sm, hD⟩ := h
      rw [List.length_map, List.take_length] at hD
      have e : TL.tl (Txt.join "" (ps.map fun j => ws.getD j "")) = join (Ws ws) ps := by
        rw [tl_join0, join_flat, List.map_map]
        congr 1
        refine List.map_congr_left fun j hj => ?_
        have := hn j hj
        show TL.tl (ws.getD j "") = (Ws ws).getD j []
        rw [ws_get (List.getElem?_eq_getElem this), List.getD_eq_getElem?_getD, List.getElem?_eq_getElem this]
        rfl
      refine ⟨_, D, _, rfl, rfl, .inl (SqL.of hD), ?_, q _ H' sm e⟩
      have hb : ∀ l : List Nat, (∀ j ∈ l, j < ws.length) → ((l.map fun j => ws.getD j "").map (·.length)).sum ≤ l.length * 5 := fun l => by
        induction l with
        | nil => exact fun _ => Nat.zero_le _
        | cons j l ih =>
          intro hl
          rw [List.map_cons, List.map_cons, List.sum_cons, List.length_cons, Nat.succ_mul]
          have h1 := ih fun k hk => hl k (List.mem_cons_of_mem _ hk)
          have hj := hl j List.mem_cons_self
          have h2 : (ws.getD j "").length ≤ 5 := by
            rw [List.getD_eq_getElem?_getD, List.getElem?_eq_getElem hj]
            exact h5 _ (List.getElem_mem hj)
          omega
      have := hb ps hn
      rw [List.length_map, show ("" : Str).length = 0 from rfl]
      omega
theorem ok_stringof {f fc fp fj : Addr} {fd fdc fdp fdj : FuncData} {t24 : Tok} (F : Fun K "string_of" "string_of" sStringOf f fd) (GC : FnOk P w K mg base CX0 4 fc fdc ["value", "name"] (spChkC K)) (kC : PySem.W.keepIn K (.ref fc) = true) (bC : Binds K fdc ["value", "name"] []) (gC : mg "check_code" = some (.ref fc))
    (GP : FnOk P w K mg base CX0 3 fp fdp ["code", "value"] (spIsParse K)) (kP : PySem.W.keepIn K (.ref fp) = true) (bP : Binds K fdp ["code", "value"] []) (gP : mg "is_parse" = some (.ref fp))
    (GJ : FnOk P w K mg base CX0 1 fj fdj ["code", "parse"] (spJoined K)) (kJ : PySem.W.keepIn K (.ref fj) = true) (bJ : Binds K fdj ["code", "parse"] []) (gJ : mg "joined" = some (.ref fj)) (g24 : mg "MOST_STRING_LETTERS" = some (.int 24 t24)) (ml : mg "len" = none) :
    FnOk P w K mg base CX0 5 f fd ["code", "parse"] (spStringOf K) := by
  refine F.ok scString2 (fun vs H Q E h => ?_) (fun cdv A outer s H vs Q E hr h => ?_)
  · obtain ⟨a, p, ws, ps, rfl, _⟩ := h
    rfl
  · obtain ⟨a, p, ws, ps, rfl, hT, hg, hP, hl, hn, h24, q⟩ := h
    have hr1 : Room 1 _ := hr.mono (by decide)
    have hr2 : Room 2 _ := hr.mono (by decide)
    refine ⟨_, (pss_cons (ps_expr (pe_call GC (hr.mono (by decide)) (by rfl) gC kC bC .nil pass0 (pa_cons (pv 0) (pa_cons pe_str pa_nil))))
       (pss_cons (ps_if (pt_not (pt_val (pe_call GP (hr.mono (by decide)) (by rfl) gP kP bP .nil pass0 (pa_cons (pv 0) (pa_cons (pv 1) pa_nil))))) pss_never pss_nil)
       (pss_cons (ps_set (i := 2) scString2.nd rfl (.inl rfl) (pe_call GJ (hr.mono (by decide)) (by rfl) gJ kJ bJ .nil pass0 (pa_cons (pv 0) (pa_cons (pv 1) pa_nil))))
       (pss_cons (ps_if (pt_cmpR op_gt (pe_callB call_len_str (by rfl) ml PySem.boot_len (pa_cons (pv 2) pa_nil)) (pe_glob (v := .int 24) rfl g24 ⟨_, rfl⟩) (nomark _)) pss_never pss_nil)
       (pss_one (ps_ret (pv 2))))))), ?_⟩
    refine ⟨_, rfl, a, ws, _, rfl, hT, hg, fun H1 s1 => ?_⟩
    refine ⟨_, rfl, _, rfl, a, p, ws, ps, rfl, Same.tup s1 hT, hg.six, Same.tup s1 hP, hl, hn, fun H2 s2 => ⟨true, rfl, iteF ?_⟩⟩
    refine ⟨_, rfl, _, rfl, a, p, ws, ps, rfl, Same.tup (s1.trans s2) hT, (fun z hz => by have := (hg.word z hz).2.2; omega), Same.tup (s1.trans s2) hP, hl, hn, fun z H3 s3 ez => ?_⟩
    have hzl : z.length ≤ 24 := by
      rw [TL.len_tl, ez]
      exact h24
    refine ⟨_, rfl, z, rfl, by rw [sizeLine_eq]; omega, _, _, rfl, rfl, _, rfl, ?_⟩
    rw [decide_eq_false (show ¬ (24 : Int) < z.length by omega)]
    exact iteF ⟨_, rfl, q z H3 (s1.trans (s2.trans s3)) ez⟩
end
end Sy
/-! Syncedwords: the parse with an index, the index of a parse. -/
namespace Sy
open PySem PySem.Spec PyProof.Rows L2 SyM
open C8 (pss_cut tCut)
section
variable {P : Program} {w : World} {K : PySem.W.Frag} {mg : Str → Option Value} {base : Heap}
theorem ok_parseat {f fh : Addr} {fd fdh : FuncData} (F : Fun K "parse_at" "parse_at" sParseAt f fd)
    (GH : FnOk P w K mg base CX0 1 fh fdh ["code", "string", "place", "counts"] (spShares K)) (kH : PySem.W.keepIn K (.ref fh) = true) (bH : Binds K fdh ["code", "string", "place", "counts"] []) (gH : mg "shares" = some (.ref fh)) (ml : mg "len" = none) (mt : mg "tuple" = none) :
    FnOk P w K mg base CX0 2 f fd ["code", "string", "counts", "index"] (spParseAt K) := by
  refine F.ok scParseAt (fun vs H Q E h => ?_) (fun cdv A outer s H vs Q E hr h => ?_)
  · obtain ⟨a, C, ws, z, i, rfl, _⟩ := h
    rfl
  · obtain ⟨a, C, ws, z, i, rfl, hT, hg, hz, h3, hi, q⟩ := h
    have hr1 : Room 1 _ := hr
    have hz24 := hz.2
    have ez := TL.len_tl z
    refine ⟨_, (pss_cons (ps_set (i := 4) scParseAt.nd rfl (.inl rfl) (pe_lst pa_nil))
       (pss_cons (ps_set (i := 5) scParseAt.nd rfl (.inl rfl) pe_int)
       (pss_cons (ps_set (i := 6) scParseAt.nd rfl (.inl rfl) (pv 3))
       (pss_cons (ps_while PassesOwn.never (pt_cmpR op_lt (pv 5) (pe_callB call_len_str (by rfl) ml PySem.boot_len (pa_cons (pv 1) pa_nil)) (nomark _)) (pss_cons (ps_set (i := 7) scParseAt.nd rfl (.inl rfl) (pe_call GH (hr.mono (by decide)) (by rfl) gH kH bH .nil pass0 (pa_cons (pv 0) (pa_cons (pv 1) (pa_cons (pv 5) (pa_cons (pv 2) pa_nil))))))
         (pss_cons (ps_set (i := 8) scParseAt.nd rfl (.inl rfl) pe_int)
         (pss_cons (ps_while PassesOwn.never (pt_cmpR op_ge (pv 6) (pe_ix (r := rIxL K) ix_list (pv 7) (pv 8) (fun _ _ => rfl)) (nomark _)) (pss_cons (ps_aug (i := 6) scParseAt.nd rfl (.inl rfl) (pe_ix (r := rIxL K) ix_list (pv 7) (pv 8) (fun _ _ => rfl)) ip_sub)
           (pss_one (ps_aug (i := 8) scParseAt.nd rfl (.inl rfl) pe_int ip_add))))
         (pss_cons (ps_expr (pe_bm PySem.F.plainAttrs_list PySem.F.slot_list_append PySem.F.type_list_append mt_append (pv 4) (pa_cons (pv 8) pa_nil)))
         (pss_one (ps_aug (i := 5) scParseAt.nd rfl (.inl rfl) (pe_callB call_len_str (by rfl) ml PySem.boot_len (pa_cons (pe_ix (r := rIxT K) ix_tup (pv 0) (pv 8) (fun _ _ => rfl)) pa_nil)) ip_add)))))))
       (pss_one (ps_ret (pe_callTy call_tuple_of (by rfl) mt (by decide +kernel) (pa_cons (pv 4) pa_nil)))))))), ?_⟩
    refine ⟨Nat.zero_le _, fun R nR => ?_⟩
    have nR0 : H R = none := nR
    refine ⟨_, rfl, ?_⟩
    refine ⟨fun m σ H' => ∃ (k l : Nat) (ps : List Nat) (y7 y8 : Option V), σ = [some (.ref a), some (.str z), some (.ref C), some (iN i), some (.ref R), some (iN k), some (iN l), y7, y8] ∧ k ≤ z.length ∧ m = z.length - k ∧ Same H H' ∧ H' R = some (.lst (ps.map iN)) ∧ ps.length ≤ k ∧
        H' C = some (.lst ((cb (Ws ws) (TL.tl z)).map iN)) ∧ l < cnt (Ws ws) ((TL.tl z).drop k) ∧ ps ++ nth (Ws ws) 24 ((TL.tl z).drop k) l = nth (Ws ws) 24 (TL.tl z) i, ⟨z.length, 0, i, [], none, none, rfl, Nat.zero_le _, rfl, Same.new (Same.refl H) nR, upd_same, Nat.le_refl _, Same.new (Same.refl H) nR _ _ h3, hi, rfl⟩, ?_⟩
    rintro m σ H' ⟨k, l, ps, y7, y8, rfl, hk, rfl, sm, hR, hpl, hC, hl, hps⟩
    refine ⟨_, rfl, _, rfl, z, rfl, by rw [sizeLine_eq]; omega, _, _, rfl, rfl, _, rfl, ?_⟩
    by_cases hkn : k < z.length
    · rw [decide_eq_true (show (k : Int) < (z.length : Nat) by omega)]
      refine iteT ⟨fun σ' H'' => ∃ (k' l' : Nat) (ps' : List Nat) (y7 y8 : Option V), σ' = [some (.ref a), some (.str z), some (.ref C), some (iN i), some (.ref R), some (iN k'), some (iN l'), y7, y8] ∧ k < k' ∧ k' ≤ z.length ∧ Same H H'' ∧ H'' R = some (.lst (ps'.map iN)) ∧ ps'.length ≤ k' ∧
        H'' C = some (.lst ((cb (Ws ws) (TL.tl z)).map iN)) ∧ l' < cnt (Ws ws) ((TL.tl z).drop k') ∧ ps' ++ nth (Ws ws) 24 ((TL.tl z).drop k') l' = nth (Ws ws) 24 (TL.tl z) i, ?_, ?_⟩
      · rintro σ' H'' ⟨k', l', ps', y7, y8, e, hkk, hk', a1, a2, a3, a4, a5, a6⟩
        exact ⟨z.length - k', by omega, k', l', ps', y7, y8, e, hk', rfl, a1, a2, a3, a4, a5, a6⟩
      · -- many = shares(..)
        refine ⟨_, rfl, _, rfl, _, rfl, _, rfl, a, C, ws, z, k, _, rfl, Same.tup sm hT, hg, hz, SqL.of hC, by rw [cb_len, ez], hk, fun M H4 s4 n4 h4 => ?_⟩
        have hne : (TL.tl z).drop k ≠ [] := fun e => by
          have := congrArg List.length e
          rw [List.length_drop, List.length_nil] at this
          omega
        rw [cb_drop _ _ _ (by omega), sh_full hg.ne hne] at h4
        obtain ⟨p1, p2, p3, p4, p5⟩ := pick_word hg.ne hne hl
        have hsum : l < (shares (Ws ws) ((TL.tl z).drop k)).sum := by
          rw [← cnt_shares hg.ne hne]
          exact hl
        generalize hms : shares (Ws ws) ((TL.tl z).drop k) = ms at h4 p1 p2 p3 p4 p5 hsum
        -- number = 0; the inner loop
        refine ⟨fun m σ H5 => ∃ (l' j : Nat), σ = [some (.ref a), some (.str z), some (.ref C), some (iN i), some (.ref R), some (iN k), some (iN l'), some (.ref M), some (iN j)] ∧ H5 = H4 ∧ m = ms.length - j ∧ l' < (ms.drop j).sum ∧ (pick (ms.drop j) l').1 + j = (pick ms l).1 ∧ (pick (ms.drop j) l').2 = (pick ms l).2, ⟨ms.length, l, 0, rfl, rfl, rfl, hsum, rfl, rfl⟩, ?_⟩
        rintro m σ H5 ⟨l', j, rfl, rfl, rfl, hs, e1, e2⟩
        have hj : j < ms.length := by
          rcases Nat.lt_or_ge j ms.length with h | h
          · exact h
          · rw [List.drop_of_length_le h] at hs
            exact absurd hs (Nat.not_lt_zero _)
        have ed : ms.drop j = ms[j] :: ms.drop (j + 1) := List.drop_eq_getElem_cons hj
        have hM : (ms.map iN)[j]? = some (iN ms[j]) := by
          rw [List.getElem?_map, List.getElem?_eq_getElem hj]
          rfl
        refine ⟨_, rfl, _, rfl, _, rfl, M, _, _, _, rfl, rfl, SqL.of h4, atI_nat hM, _, _, rfl, rfl, _, rfl, ?_⟩
        rw [ed, List.sum_cons] at hs
        rw [ed, pick] at e1 e2
        by_cases hge : ms[j] ≤ l'
        · rw [decide_eq_true (show ((ms[j] : Nat) : Int) ≤ (l' : Nat) by omega)]
          rw [if_neg (by omega)] at e1 e2
          refine iteT ⟨fun σ' H6 => σ' = [some (.ref a), some (.str z), some (.ref C), some (iN i), some (.ref R), some (iN k), some (iN (l' - ms[j])), some (.ref M), some (iN (j + 1))] ∧ H6 = H5, ?_, ?_⟩
          · rintro σ' H6 ⟨e, rfl⟩
            exact ⟨ms.length - (j + 1), by omega, l' - ms[j], j + 1, e, rfl, rfl, by omega, by rw [← e1]; omega, e2⟩
          · refine ⟨_, rfl, _, rfl, _, rfl, M, _, _, _, rfl, rfl, SqL.of h4, atI_nat hM, _, _, rfl, rfl, _, rfl, _, _, rfl, rfl, ?_, rfl⟩
            show [some (V.ref a), some (V.str z), some (V.ref C), some (iN i), some (V.ref R), some (iN k), some (V.int ((l' : Int) - (ms[j] : Nat))), some (V.ref M), some (V.int ((j : Int) + 1))] = _
            rw [show ((l' : Int) - (ms[j] : Nat)) = ((l' - ms[j] : Nat) : Int) by omega]
            rfl
        · rw [decide_eq_false (show ¬ ((ms[j] : Nat) : Int) ≤ (l' : Nat) by omega)]
          rw [if_pos (by omega)] at e1 e2
          have e1' : j = (pick ms l).1 := by rw [← e1]; exact (Nat.zero_add j).symm
          have e2' : l' = (pick ms l).2 := e2
          rw [← e1', ← e2'] at p3
          rw [← e1'] at p1 p2 p4
          rw [List.length_map] at p1
          have hy : ws[j]? = some ws[j] := List.getElem?_eq_getElem p1
          rw [ws_get hy] at p2 p3 p4
          have hle := pre_le p2
          rw [List.length_drop] at hle
          have hyw := hg.word ws[j] (List.getElem_mem p1)
          have hR5 := s4 _ _ hR
          refine iteF ?_
          refine ⟨_, rfl, .inl ⟨rfl, _, SqL.of hR5⟩, _, rfl, R, _, _, rfl, rfl, hR5, ?_, ?_⟩
          · rw [List.length_map, sizeLine_eq]
            omega
          have nRC : C ≠ R := ne_of_none h3 nR
          have smR : Same H (upd H5 R (.lst (ps.map iN ++ [iN j]))) := Same.put' (sm.trans s4) nR0
          refine ⟨_, rfl, _, rfl, _, rfl, a, _, _, .str ws[j], rfl, rfl, Same.tup smR hT, atI_nat (j := j) (by rw [List.getElem?_map, hy]; rfl), ws[j], rfl, by rw [sizeLine_eq]; omega, _, _, rfl, rfl, k + ws[j].length, l', ps ++ [j], some (.ref M), some (iN j), rfl, by rw [TL.len_tl]; omega, by rw [TL.len_tl ws[j]]; omega, smR, by rw [upd_same, List.map_append]; rfl, by rw [List.length_append, TL.len_tl ws[j]]; show _ + 1 ≤ _; omega, ?_, ?_, ?_⟩
          · rw [upd_ne nRC]
            exact s4 _ _ hC
          · rw [← List.drop_drop, TL.len_tl]
            exact p3
          · rw [← hps, List.append_assoc]
            congr 1
            rw [← List.drop_drop, TL.len_tl]
            cases hd : (TL.tl z).drop k with
            | nil => exact absurd hd hne
            | cons c s =>
              rw [hd] at hms p3 hne
              have hlen : (c :: s).length ≤ 24 := by
                rw [← hd, List.length_drop]
                omega
              show j :: nth (Ws ws) 24 ((c :: s).drop (TL.tl ws[j]).length) l' = nth (Ws ws) (23 + 1) (c :: s) l
              rw [SyM.nth, hms, ← e1', ← e2', ws_get hy]
              congr 1
              exact nth_fuel hg.ne 24 23 _ _ (by rw [List.length_drop]; omega) (by rw [List.length_drop]; omega) p3
    · rw [decide_eq_false (show ¬ (k : Int) < (z.length : Nat) by omega)]
      have ekn : k = z.length := by omega
      subst ekn
      rw [List.drop_of_length_le (by omega), show nth (Ws ws) 24 [] l = [] from rfl, List.append_nil] at hps
      rw [hps] at hR
      exact iteF ⟨_, rfl, R, _, rfl, .inl ⟨SqL.of hR, fun c nc => q c _ (Same.new sm nc) (SqT.of upd_same)⟩⟩
theorem ok_nth {f fc fs fb fn fh : Addr} {fd fdc fds fdb fdn fdh : FuncData} (F : Fun K "nth_parse" "nth_parse" sNth f fd) (GC : FnOk P w K mg base CX0 4 fc fdc ["value", "name"] (spChkC K)) (kC : PySem.W.keepIn K (.ref fc) = true) (bC : Binds K fdc ["value", "name"] []) (gC : mg "check_code" = some (.ref fc))
    (GS : FnOk P w K mg base CX0 4 fs fds ["value", "name"] spChkS) (kS : PySem.W.keepIn K (.ref fs) = true) (bS : Binds K fds ["value", "name"] []) (gS : mg "check_string" = some (.ref fs))
    (GB : FnOk P w K mg base CX0 2 fb fdb ["code", "string"] (spBehind K)) (kB : PySem.W.keepIn K (.ref fb) = true) (bB : Binds K fdb ["code", "string"] []) (gB : mg "counts_behind" = some (.ref fb))
    (GN : FnOk P w K mg base CX0 3 fn fdn ["value", "least", "most", "name"] spChkN) (kN : PySem.W.keepIn K (.ref fn) = true) (bN : Binds K fdn ["value", "least", "most", "name"] []) (gN : mg "check_number" = some (.ref fn))
    (GH : FnOk P w K mg base CX0 2 fh fdh ["code", "string", "counts", "index"] (spParseAt K)) (kH : PySem.W.keepIn K (.ref fh) = true) (bH : Binds K fdh ["code", "string", "counts", "index"] []) (gH : mg "parse_at" = some (.ref fh)) :
    FnOk P w K mg base CX0 5 f fd ["code", "string", "index"] (spNth K) := by
  refine F.ok scNth (fun vs H Q E h => ?_) (fun cdv A outer s H vs Q E hr h => ?_)
  · obtain ⟨a, ws, z, i, rfl, _⟩ := h
    rfl
  · obtain ⟨a, ws, z, i, rfl, hT, hg, hz, hi, q⟩ := h
    have hr1 : Room 1 _ := hr.mono (by decide)
    have hr2 : Room 2 _ := hr.mono (by decide)
    have hz24 := hz.2
    have ez := TL.len_tl z
    refine ⟨_, (pss_cons (ps_expr (pe_call GC (hr.mono (by decide)) (by rfl) gC kC bC .nil pass0 (pa_cons (pv 0) (pa_cons pe_str pa_nil))))
       (pss_cons (ps_expr (pe_call GS (hr.mono (by decide)) (by rfl) gS kS bS .nil pass0 (pa_cons (pv 1) (pa_cons pe_str pa_nil))))
       (pss_cons (ps_set (i := 3) scNth.nd rfl (.inl rfl) (pe_call GB (hr.mono (by decide)) (by rfl) gB kB bB .nil pass0 (pa_cons (pv 0) (pa_cons (pv 1) pa_nil))))
       (pss_cons (ps_expr (pe_call GN (hr.mono (by decide)) (by rfl) gN kN bN .nil pass0 (pa_cons (pv 2) (pa_cons pe_int (pa_cons (pe_op op_sub (pe_ix (r := rIxL K) ix_list (pv 3) pe_int (fun _ _ => rfl)) pe_int) (pa_cons pe_str pa_nil))))))
       (pss_one (ps_ret (pe_call GH (hr.mono (by decide)) (by rfl) gH kH bH .nil pass0 (pa_cons (pv 0) (pa_cons (pv 1) (pa_cons (pv 3) (pa_cons (pv 2) pa_nil))))))))))), ?_⟩
    refine ⟨_, rfl, a, ws, _, rfl, hT, hg, fun H1 s1 => ?_⟩
    refine ⟨_, rfl, z, _, rfl, hz, fun H2 s2 => ?_⟩
    have sT := s1.trans s2
    refine ⟨_, rfl, _, rfl, a, ws, z, rfl, Same.tup sT hT, hg, hz, fun C H3 s3 n3 h3 => ?_⟩
    have sA := sT.trans s3
    have h0 := cb_get (Ws ws) (TL.tl z) 0 (Nat.zero_le _)
    refine ⟨_, rfl, _, rfl, C, _, 0, iN (cnt (Ws ws) (TL.tl z)), rfl, rfl, SqL.of h3, atI_nat (j := 0) (by rw [List.getElem?_map, h0]; rfl), _, 1, rfl, rfl, ?_⟩
    refine ⟨_, 0, _, _, rfl, by omega, by omega, ?_⟩
    exact ⟨_, rfl, _, rfl, _, rfl, _, rfl, a, C, ws, z, i, rfl, Same.tup sA hT, hg, hz, h3, hi, fun p H' s h => q p H' (sA.trans s) h⟩
theorem ok_index {f fs fb fh : Addr} {fd fds fdb fdh : FuncData} (F : Fun K "index_of_parse" "index_of_parse" sIndex f fd) (GT : FnOk P w K mg base CX0 5 fs fds ["code", "parse"] (spStringOf K)) (kT : PySem.W.keepIn K (.ref fs) = true) (bT : Binds K fds ["code", "parse"] []) (gT : mg "string_of" = some (.ref fs))
    (GB : FnOk P w K mg base CX0 2 fb fdb ["code", "string"] (spBehind K)) (kB : PySem.W.keepIn K (.ref fb) = true) (bB : Binds K fdb ["code", "string"] []) (gB : mg "counts_behind" = some (.ref fb))
    (GH : FnOk P w K mg base CX0 1 fh fdh ["code", "string", "place", "counts"] (spShares K)) (kH : PySem.W.keepIn K (.ref fh) = true) (bH : Binds K fdh ["code", "string", "place", "counts"] []) (gH : mg "shares" = some (.ref fh)) (ml : mg "len" = none) (mu : mg "sum" = none) :
    FnOk P w K mg base CX0 6 f fd ["code", "parse"] (spIndex K) := by
  refine F.ok scIndex (fun vs H Q E h => ?_) (fun cdv A outer s H vs Q E hr h => ?_)
  · obtain ⟨a, p, ws, ps, rfl, _⟩ := h
    rfl
  · obtain ⟨a, p, ws, ps, rfl, hT, hg, hP, hl, hn, h3, h24, q⟩ := h
    have hr1 : Room 1 _ := hr.mono (by decide)
    have hr2 : Room 2 _ := hr.mono (by decide)
    refine ⟨_, (pss_cons (ps_set (i := 2) scIndex.nd rfl (.inl rfl) (pe_call GT (hr.mono (by decide)) (by rfl) gT kT bT .nil pass0 (pa_cons (pv 0) (pa_cons (pv 1) pa_nil))))
       (pss_cons (ps_set (i := 3) scIndex.nd rfl (.inl rfl) (pe_call GB (hr.mono (by decide)) (by rfl) gB kB bB .nil pass0 (pa_cons (pv 0) (pa_cons (pv 2) pa_nil))))
       (pss_cons (ps_set (i := 4) scIndex.nd rfl (.inl rfl) pe_int)
       (pss_cons (ps_set (i := 5) scIndex.nd rfl (.inl rfl) pe_int)
       (pss_cons (ps_for PassesOwn.never rfl (pi_tup (pv 1)) (pg_name (i := 6) scIndex.nd rfl (Or.inl rfl)) (pss_cons (ps_aug (i := 4) scIndex.nd rfl (.inl rfl) (pe_callB (cr_sum rfl) (by rfl) mu (by decide +kernel) (pa_cons (pe_slice sl_list (pe_call GH (hr.mono (by decide)) (by rfl) gH kH bH .nil pass0 (pa_cons (pv 0) (pa_cons (pv 2) (pa_cons (pv 5) (pa_cons (pv 3) pa_nil))))) po_none (po_some (pv 6))) pa_nil)) ip_add)
         (pss_one (ps_aug (i := 5) scIndex.nd rfl (.inl rfl) (pe_callB call_len_str (by rfl) ml PySem.boot_len (pa_cons (pe_ix (r := rIxT K) ix_tup (pv 0) (pv 6) (fun _ _ => rfl)) pa_nil)) ip_add))))
       (pss_one (ps_ret (pv 4)))))))), ?_⟩
    refine ⟨_, rfl, _, rfl, a, p, ws, ps, rfl, hT, hg, hP, hl, hn, h24, fun z H1 s1 etz => ?_⟩
    have ez : z = ⟨(join (Ws ws) ps).toArray⟩ := TL.ext_tl etz
    have hz : GoodS z := ⟨by rw [ez]; exact h3, by rw [TL.len_tl, etz]; exact h24⟩
    have hz24 := hz.2
    have el := TL.len_tl z
    refine ⟨_, rfl, _, rfl, a, ws, z, rfl, Same.tup s1 hT, hg, hz, fun C H2 s2 n2 h2 => ?_⟩
    have sA := s1.trans s2
    refine ⟨_, rfl, p, rfl, ⟨_, Same.tup sA hP⟩, ?_⟩
    refine for_tup (xs := ps.map iN) (fun t σ H' => ∃ (acc : Nat) (y6 : Option V), σ = [some (.ref a), some (.ref p), some (.str z), some (.ref C), some (iN acc), some (iN (join (Ws ws) (ps.take t)).length), y6] ∧ Same H2 H' ∧ acc + idx (Ws ws) (join (Ws ws) (ps.drop t)) (ps.drop t) = idx (Ws ws) (join (Ws ws) ps) ps)
      ⟨0, none, rfl, Same.refl _, Nat.zero_add _⟩ (fun t σ H' _ hP' => (let ⟨_, _, _, sm, _⟩ := hP'; Same.tup (sA.trans sm) hP)) (fun t x σ H' hx hP' => ?_) (fun σ H' hP' => ?_)
    · obtain ⟨acc, y6, rfl, sm, hacc⟩ := hP'
      rw [List.getElem?_map] at hx
      cases hj : ps[t]? with
      | none =>
        rw [hj] at hx
        cases hx
      | some j =>
        rw [hj] at hx
        cases Option.some.inj hx
        have htl := (List.getElem?_eq_some_iff.mp hj).1
        have hjl := hn j (List.mem_of_getElem? hj)
        have hy : ws[j]? = some ws[j] := List.getElem?_eq_getElem hjl
        have hyw := hg.word ws[j] (List.getElem_mem hjl)
        have ejd : ps.drop t = j :: ps.drop (t + 1) := by
          rw [List.drop_eq_getElem_cons htl]
          congr 1
          exact Option.some.inj ((List.getElem?_eq_getElem htl).symm.trans hj)
        have esp : TL.tl z = join (Ws ws) (ps.take t) ++ join (Ws ws) (ps.drop t) := by
          rw [etz]
          exact join_drop
        have edr : (TL.tl z).drop (join (Ws ws) (ps.take t)).length = join (Ws ws) (ps.drop t) := by
          rw [esp, List.drop_left]
        have hkl : (join (Ws ws) (ps.take t)).length ≤ z.length := by
          rw [el, esp, List.length_append]
          omega
        have hne : join (Ws ws) (ps.drop t) ≠ [] := fun e => by
          rw [ejd, join, ws_get hy] at e
          have := congrArg List.length (List.append_eq_nil_iff.mp e).1
          rw [← TL.len_tl, List.length_nil] at this
          omega
        have hC := sm _ _ h2
        have sT' := sA.trans sm
        refine ⟨_, rfl, ?_⟩
        refine ⟨_, rfl, _, rfl, _, rfl, _, rfl, a, C, ws, z, _, _, rfl, Same.tup sT' hT, hg, hz, SqL.of hC, by rw [cb_len, el], hkl, fun D H4 s4 n4 h4 => ?_⟩
        rw [cb_drop _ _ _ (by omega), edr, sh_full hg.ne hne] at h4
        refine ⟨_, rfl, (j : Int), rfl, D, _, rfl, SqL.of h4, fun D2 n5 => ?_⟩
        have ecut : cutV ((shares (Ws ws) (join (Ws ws) (ps.drop t))).map iN) none (some (j : Int)) = (((shares (Ws ws) (join (Ws ws) (ps.drop t))).take j).map Int.ofNat).map V.int := by
          rw [cut_to, ← List.map_take, iN_ints]
        refine ⟨D2, _, rfl, SqL.of (by rw [upd_same, ecut]), ?_⟩
        rw [sum_ints]
        refine ⟨_, _, rfl, rfl, _, rfl, _, rfl, _, rfl, a, _, _, .str ws[j], rfl, rfl, Same.tup (sT'.trans (Same.new s4 n5)) hT, atI_nat (j := j) (by rw [List.getElem?_map, hy]; rfl), ws[j], rfl, by rw [sizeLine_eq]; omega, _, _, rfl, rfl, acc + ((shares (Ws ws) (join (Ws ws) (ps.drop t))).take j).sum, some (iN j), ?_, sm.trans (Same.new s4 n5), ?_⟩
        · have e1 : (join (Ws ws) (ps.take (t + 1))).length = (join (Ws ws) (ps.take t)).length + ws[j].length := by
            rw [join_take hj, List.length_append, ws_get hy, ← TL.len_tl]
          rw [e1]
          rfl
        · rw [← hacc, ejd, idx, join, ws_get hy, List.drop_left]
          omega
    · obtain ⟨acc, y6, rfl, sm, hacc⟩ := hP'
      rw [List.length_map, List.drop_length] at hacc
      have : acc = idx (Ws ws) (join (Ws ws) ps) ps := by
        rw [← hacc]
        rfl
      subst this
      exact ⟨_, rfl, q H' (sA.trans sm)⟩
end
end Sy
/-! Syncedwords: codes backwards. -/
namespace Sy
open PySem PySem.Spec PyProof.Rows L2 SyM
open C8 (pss_cut tCut)
abbrev sBack : Stmt := topS 34
abbrev nBack : List Str := ["code", "word"]
theorem scBack : FnScope nBack ["code"] (defScope sBack) := ⟨rfl, rfl, rfl, by decide +kernel, rfl, by decide +kernel, by decide +kernel⟩
/-- a text from its end -/
def revS (z : Str) : Str := ⟨(TL.tl z).reverse.toArray⟩
def spBack (K : PySem.W.Frag) : Sp := fun vs H Q _ => ∃ (a : Addr) (ws : List Str), vs = [.ref a] ∧ SqT K H a (ws.map V.str) ∧ GoodC ws ∧ ∀ c H', Same H H' → SqT K H' c ((ws.map revS).map V.str) → Q (.ref c) H'
section
variable {P : Program} {w : World} {K : PySem.W.Frag} {mg : Str → Option Value} {base : Heap}
theorem ok_back {f fc : Addr} {fd fdc : FuncData} (F : Fun K "backwards" "backwards" sBack f fd) (GC : FnOk P w K mg base CX0 4 fc fdc ["value", "name"] (spChkC K)) (kC : PySem.W.keepIn K (.ref fc) = true) (bC : Binds K fdc ["value", "name"] []) (gC : mg "check_code" = some (.ref fc)) (mt : mg "tuple" = none) :
    FnOk P w K mg base CX0 5 f fd ["code"] (spBack K) := by
  refine F.ok scBack (fun vs H Q E h => ?_) (fun cdv A outer s H vs Q E hr h => ?_)
  · obtain ⟨a, ws, rfl, _⟩ := h
    rfl
  · obtain ⟨a, ws, rfl, hT, hg, q⟩ := h
    refine ⟨_, (pss_cons (ps_expr (pe_call GC (hr.mono (by decide)) (by rfl) gC kC bC .nil pass0 (pa_cons (pv 0) (pa_cons pe_str pa_nil))))
       (pss_one (ps_ret (pe_callTy call_tuple_of (by rfl) mt (by decide +kernel) (pa_cons (pe_lc (own := [("word", 1)]) (g := (gName 1)) (tt := tYes) rfl scBack.nd (pi_tup (pv 0)) (blkOk_by (own := [("word", 1)]) (N := nBack) (sc := defScope sBack) (by decide +kernel)) (fun _ _ _ _ _ => (pg_name (i := 1) scBack.nd rfl (Or.inl rfl))) (fun _ _ _ _ _ => pts_nil) (fun _ _ _ _ _ => (pe_rev_str (pv 1)))) pa_nil))))), ?_⟩
    refine ⟨_, rfl, a, ws, _, rfl, hT, hg, fun H1 s1 => ?_⟩
    have hT1 := Same.tup s1 hT
    refine ⟨_, rfl, a, rfl, ⟨_, hT1⟩, fun D nD => ?_⟩
    refine lc_tup (xs := ws.map V.str) (fun i H' => Same H1 H' ∧ H' D = some (.lst (((ws.take i).map revS).map V.str))) ⟨Same.new (Same.refl H1) nD, by rw [upd_same]; rfl⟩ (fun i H' _ h => Same.tup h.1 hT1) (fun i x H' hx h => ?_) (fun H' h => ?_)
    · obtain ⟨sm, hD⟩ := h
      rw [List.getElem?_map] at hx
      cases hw : ws[i]? with
      | none =>
        rw [hw] at hx
        cases hx
      | some y =>
        rw [hw] at hx
        cases Option.some.inj hx
        have hyw := hg.word y (List.mem_of_getElem? hw)
        have h6 := hg.six
        refine ⟨rfl, tYes_ok ⟨_, rfl, y, rfl, by rw [sizeLine_eq]; omega, _, hD, ?_, Same.put' sm nD, ?_⟩⟩
        · rw [List.length_map, List.length_map, List.length_take, sizeLine_eq]
          omega
        · rw [upd_same, List.take_add_one, hw, List.map_append, List.map_append]
          rfl
    · obtain ⟨sm, hD⟩ := h
      rw [List.length_map, List.take_length] at hD
      exact ⟨D, _, rfl, .inl ⟨SqL.of hD, fun c nc => q c _ (s1.trans (Same.new sm nc)) (SqT.of upd_same)⟩⟩
end
end Sy
/-! Syncedwords: drawn messages. -/
namespace Sy
open PySem PySem.Spec PyProof.Rows L2 SyM
open C8 (pss_cut tCut)
abbrev sMsg : Stmt := topS 43
theorem scMsg : FnScope ["stream", "code", "most", "string", "turn", "word"] ["stream", "code", "most"] (defScope sMsg) := ⟨rfl, rfl, rfl, by decide +kernel, rfl, by decide +kernel, by decide +kernel⟩
def spMsg (K : PySem.W.Frag) : Sp := fun vs H Q _ => ∃ (l s c : Addr) (ws : List Str) (most : Int), vs = [.ref s, .ref c, .int most] ∧ Strm l H s ∧ SqT K H c (ws.map V.str) ∧ GoodC ws ∧ 0 ≤ most ∧ most ≤ 100 ∧
  ∀ z H', Keep s H H' → Strm l H' s → Lets 3 z → (z.length : Int) ≤ most → 0 < cnt (Ws ws) (TL.tl z) → Q (.str z) H'
theorem mul1 (x : Str) : Txt.mul x 1 = x := rfl
theorem mul0 (x : Str) : Txt.mul x 0 = Str.empty := rfl
theorem app_empty (x : Str) : x ++ Str.empty = x := TL.ext_tl (by rw [TL.tl_append]; exact List.append_nil _)
section
variable {P : Program} {w : World} {K : PySem.W.Frag} {mg : Str → Option Value} {base : Heap}
theorem ok_msg {f fn fp : Addr} {fd fdn fdp : FuncData} (F : Fun K "_law_message" "_law_message" sMsg f fd) (GN : FnOk P w K mg base CX0 1 fn fdn ["stream", "many"] spNext) (kN : PySem.W.keepIn K (.ref fn) = true) (bN : Binds K fdn ["stream", "many"] []) (gN : mg "_law_next" = some (.ref fn))
    (GP : FnOk P w K mg base CX0 2 fp fdp ["stream", "rows"] (spPickT K)) (kP : PySem.W.keepIn K (.ref fp) = true) (bP : Binds K fdp ["stream", "rows"] []) (gP : mg "_law_pick" = some (.ref fp)) (ml : mg "len" = none) (mr : mg "range" = none) (mi : mg "int" = none) :
    FnOk P w K mg base CX0 4 f fd ["stream", "code", "most"] (spMsg K) := by
  refine F.ok scMsg (fun vs H Q E h => ?_) (fun cdv A outer s H vs Q E hr h => ?_)
  · obtain ⟨l, s, c, ws, most, rfl, _⟩ := h
    rfl
  · obtain ⟨l, p, c, ws, most, rfl, hst, hT, hg, h0, h1, q⟩ := h
    have hr1 : Room 1 _ := hr.mono (by decide)
    refine ⟨_, (pss_cons (ps_set (i := 3) scMsg.nd rfl (.inl rfl) pe_str)
       (pss_cons (ps_for PassesOwn.never rfl (pi_range1 (by rfl) mr (pa_cons (pe_call GN (hr.mono (by decide)) (by rfl) gN kN bN .nil pass0 (pa_cons (pv 0) (pa_cons pe_int pa_nil))) pa_nil)) (pg_name (i := 4) scMsg.nd rfl (Or.inl rfl)) (pss_one (ps_if (pt_truth (pv 1) (by intro _; rfl)) (pss_cons (ps_set (i := 5) scMsg.nd rfl (.inl rfl) (pe_call GP (hr.mono (by decide)) (by rfl) gP kP bP .nil pass0 (pa_cons (pv 0) (pa_cons (pv 1) pa_nil))))
           (pss_one (ps_set (i := 3) scMsg.nd rfl (.inl rfl) (pe_op op_add_str (pv 3) (pe_op op_mul_txt (pv 5) (pe_callTy call_int1 (by rfl) mi (by decide +kernel) (pa_cons (pe_cmpR op_le (pe_callB call_len_str (by rfl) ml PySem.boot_len (pa_cons (pe_op op_add_str (pv 3) (pv 5)) pa_nil)) (pv 2) (nomark _)) pa_nil))))))) pss_nil)))
       (pss_one (ps_ret (pv 3))))), ?_⟩
    refine ⟨_, rfl, l, p, 9, rfl, hst, by decide, by decide, fun d H1 d0 d1 kp st => ?_⟩
    refine ⟨d, rfl, by omega, by omega, ?_⟩
    refine for_range (lo := 0) (n := d.toNat) (fun i σ H' => ∃ (z : Str) (y4 y5 : Option V), σ = [some (.ref p), some (.ref c), some (.int most), some (.str z), y4, y5] ∧ Keep p H H' ∧ Strm l H' p ∧ Lets 3 z ∧ (z.length : Int) ≤ most ∧ 0 < cnt (Ws ws) (TL.tl z))
      ⟨"", none, none, rfl, kp, st, fun c hc => by simp [show TL.tl "" = [] from rfl] at hc, by rw [show ("" : Str).length = 0 from rfl]; exact h0, by rw [show TL.tl "" = [] from rfl]; exact Nat.one_pos⟩ (fun i σ H' hi hP => ?_) (fun σ H' hP => ?_)
    · obtain ⟨z, y4, y5, rfl, kp2, st2, hz3, hzl, hzc⟩ := hP
      have hT2 : SqT K H' c (ws.map V.str) := (Lk.of_keep kp2 hst st2).tup hT
      refine ⟨_, rfl, !(ws.map V.str).isEmpty, .inr (.inl ⟨_, hT2, rfl⟩), ?_⟩
      cases hws : ws with
      | nil => exact iteF ⟨z, _, y5, rfl, kp2, st2, hz3, hzl, hws ▸ hzc⟩
      | cons y0 ys =>
        refine iteT ⟨_, rfl, _, rfl, l, p, c, ws.map V.str, rfl, st2, hT2, by rw [hws]; exact Nat.succ_pos _, by have := hg.six; rw [List.length_map]; omega, fun j x H2 hx kp3 st3 => ?_⟩
        rw [List.getElem?_map] at hx
        cases hw : ws[j]? with
        | none =>
          rw [hw] at hx
          cases hx
        | some y =>
          rw [hw] at hx
          cases Option.some.inj hx
          have hym := List.mem_of_getElem? hw
          have hyw := hg.word y hym
          have hyn : TL.tl y ∈ Ws ws := List.mem_map.mpr ⟨y, hym, rfl⟩
          have kpp := kp2.trans kp3
          refine ⟨_, rfl, _, rfl, _, rfl, _, rfl, _, _, rfl, rfl, ?_, z ++ y, rfl, ?_, _, rfl, _, _, rfl, rfl, .inr ⟨_, rfl, ?_⟩⟩
          · rw [sizeLine_eq]
            omega
          · rw [sizeLine_eq, len_app]
            omega
          by_cases hle : ((z ++ y).length : Int) ≤ most
          · rw [decide_eq_true hle]
            refine ⟨y, 1, rfl, rfl, by omega, by decide, by decide, z, Txt.mul y 1, rfl, rfl, ?_, z ++ y, _, _, rfl, kpp, st3, ?_, hle, ?_⟩
            · rw [mul1, sizeLine_eq]
              omega
            · intro ch hc
              rw [TL.tl_append] at hc
              rcases List.mem_append.mp hc with hc | hc
              · exact hz3 ch hc
              · exact hyw.1 ch hc
            · rw [← hws, TL.tl_append]
              exact Nat.lt_of_lt_of_le hzc (cnt_snoc hg.ne hyn)
          · rw [decide_eq_false hle]
            refine ⟨y, 0, rfl, rfl, by omega, by decide, by decide, z, Txt.mul y 0, rfl, rfl, ?_, z, some (.int (0 + (i : Int))), some (.str y), ?_, kpp, st3, hz3, hzl, hws ▸ hzc⟩
            · rw [mul0, sizeLine_eq, show Str.empty.length = 0 from rfl]
              omega
            · rw [mul0, app_empty]
              rfl
    · obtain ⟨z, y4, y5, rfl, kp2, st2, hz3, hzl, hzc⟩ := hP
      exact ⟨_, rfl, q z H' kp2 st2 hz3 hzl hzc⟩
end
end Sy
/-! Syncedwords: lists of tuples of numbers, each tuple tracked. -/
namespace Sy
open PySem PySem.Spec PyProof.Rows L2 SyM
inductive All2 {α β : Type} (R : α → β → Prop) : List α → List β → Prop
  | nil : All2 R [] []
  | cons {x : α} {y : β} {xs : List α} {ys : List β} (h : R x y) (t : All2 R xs ys) : All2 R (x :: xs) (y :: ys)
namespace All2
variable {α β : Type} {R S : α → β → Prop}
theorem len {xs : List α} {ys : List β} (h : All2 R xs ys) : xs.length = ys.length := by
  induction h with
  | nil => rfl
  | cons _ _ ih => rw [List.length_cons, List.length_cons, ih]
theorem imp {xs : List α} {ys : List β} (h : All2 R xs ys) (k : ∀ x y, R x y → S x y) : All2 S xs ys := by
  induction h with
  | nil => exact .nil
  | cons a _ ih => exact .cons (k _ _ a) ih
theorem app {xs xs' : List α} {ys ys' : List β} (h : All2 R xs ys) (h' : All2 R xs' ys') : All2 R (xs ++ xs') (ys ++ ys') := by
  induction h with
  | nil => exact h'
  | cons a _ ih => exact .cons a ih
theorem get {xs : List α} {ys : List β} (h : All2 R xs ys) : ∀ {i : Nat} {x : α}, xs[i]? = some x → ∃ y, ys[i]? = some y ∧ R x y := by
  induction h with
  | nil =>
    intro i x e
    cases e
  | cons a _ ih =>
    intro i x e
    cases i with
    | zero =>
      cases Option.some.inj e
      exact ⟨_, rfl, a⟩
    | succ i => exact ih e
theorem getR {xs : List α} {ys : List β} (h : All2 R xs ys) : ∀ {i : Nat} {y : β}, ys[i]? = some y → ∃ x, xs[i]? = some x ∧ R x y := by
  induction h with
  | nil =>
    intro i x e
    cases e
  | cons a _ ih =>
    intro i x e
    cases i with
    | zero =>
      cases Option.some.inj e
      exact ⟨_, rfl, a⟩
    | succ i => exact ih e
theorem mem {xs : List α} {ys : List β} (h : All2 R xs ys) {x : α} (hx : x ∈ xs) : ∃ y, y ∈ ys ∧ R x y := by
  obtain ⟨i, hi⟩ := List.mem_iff_getElem?.mp hx
  obtain ⟨y, e, r⟩ := h.get hi
  exact ⟨y, List.mem_of_getElem? e, r⟩
theorem mapped {xs : List α} {f : α → β} (h : ∀ x ∈ xs, R x (f x)) : All2 R xs (xs.map f) := by
  induction xs with
  | nil => exact .nil
  | cons x xs ih => exact .cons (h x List.mem_cons_self) (ih fun y hy => h y (List.mem_cons_of_mem _ hy))
theorem isMap {xs : List α} {ys : List β} {f : α → β} (h : All2 R xs ys) (k : ∀ x y, x ∈ xs → R x y → f x = y) : xs.map f = ys := by
  induction h with
  | nil => rfl
  | cons a _ ih => rw [List.map_cons, k _ _ List.mem_cons_self a, ih fun x y hx => k x y (List.mem_cons_of_mem _ hx)]
end All2
/-- x is a tuple of the numbers p -/
def Tup1 (H : Hp) (x : V) (p : List Nat) : Prop := ∃ t, x = .ref t ∧ H t = some (.tup (p.map fun n => V.int (n : Nat)))
theorem Tup1.keep {a : Addr} {H H' : Hp} {ys : List V} (k : Keep a H H') (e : H a = some (.lst ys)) {x : V} {p : List Nat} (h : Tup1 H x p) : Tup1 H' x p := by
  obtain ⟨t, rfl, h⟩ := h
  exact ⟨t, rfl, k _ _ (ne_of h e (by intro z; cases z)) h⟩
theorem Tup1.same {H H' : Hp} (k : Same H H') {x : V} {p : List Nat} (h : Tup1 H x p) : Tup1 H' x p := by
  obtain ⟨t, rfl, h⟩ := h
  exact ⟨t, rfl, k _ _ h⟩
theorem Tup1.lk {H H' : Hp} (k : Lk H H') {x : V} {p : List Nat} (h : Tup1 H x p) : Tup1 H' x p := by
  obtain ⟨t, rfl, h⟩ := h
  rcases k _ _ h with e | ⟨_, _, z, _⟩
  · exact ⟨t, rfl, e⟩
  · cases z
theorem ints_inj : ∀ {p q : List Nat}, p.map (fun n => V.int (n : Nat)) = q.map (fun n => V.int (n : Nat)) → p = q
  | [], [], _ => rfl
  | [], _ :: _, h => by cases h
  | _ :: _, [], h => by cases h
  | x :: p, y :: q, h => by
    rw [List.map_cons, List.map_cons] at h
    injection h with h1 h2
    injection h1 with h1
    rw [Int.ofNat.inj h1, ints_inj h2]
theorem Tup1.one {H : Hp} {x : V} {p q : List Nat} (h : Tup1 H x p) (h' : Tup1 H x q) : p = q := by
  obtain ⟨t, rfl, e⟩ := h
  obtain ⟨t', e1, e'⟩ := h'
  cases e1
  rw [e] at e'
  injection e' with e'
  injection e' with e'
  exact ints_inj e'
open Classical in
/-- the numbers that x holds -/
noncomputable def held (H : Hp) (x : V) : List Nat := if h : ∃ p, Tup1 H x p then h.choose else []
theorem held_is {H : Hp} {x : V} {p : List Nat} (h : Tup1 H x p) : held H x = p := by
  unfold held
  have hx : ∃ p, Tup1 H x p := ⟨p, h⟩
  rw [dif_pos hx]
  exact Tup1.one hx.choose_spec h
theorem lexN : ∀ a b : List Nat, HT.lexLt (a.map Int.ofNat) (b.map Int.ofNat) = lex a b
  | [], [] => rfl
  | [], _ :: _ => rfl
  | _ :: _, [] => rfl
  | x :: xs, y :: ys => by
    show (if Int.ofNat x = Int.ofNat y then HT.lexLt (xs.map Int.ofNat) (ys.map Int.ofNat) else decide (Int.ofNat x < Int.ofNat y)) = (if x = y then lex xs ys else decide (x < y))
    by_cases h : x = y
    · rw [if_pos h, if_pos (by rw [h]), lexN xs ys]
    · rw [if_neg h, if_neg fun e => h (Int.ofNat.inj e)]
      exact decide_eq_decide.mpr Int.ofNat_lt
abbrev Tups (H : Hp) : List V → List (List Nat) → Prop := All2 (Tup1 H)
/-- sorted: what is asked of a list of tracked tuples that holds all parses, and what comes -/
theorem sorted_par {K : PySem.W.Frag} {H : Hp} {a : Addr} {xs : List V} {W : List (List Nat)} {s : List Nat} {L : List (List Nat)} {n : Nat} {Q : VK} (hne : NE W) (hs : s.length ≤ n) (hx : H a = some (.lst xs)) (hT : Tups H xs L) (hL : AllP W s L)
    (q : ∀ p ys, H p = none → Tups (upd H p (.lst ys)) ys (par W n s) → Q (.ref p) (upd H p (.lst ys))) : rSortedTs K [.ref a] H Q := by
  have hh : ∀ x ∈ xs, ∃ p, p ∈ L ∧ Tup1 H x p ∧ held H x = p := fun x m => by
    obtain ⟨p, hp, h⟩ := hT.mem m
    exact ⟨p, hp, h, held_is h⟩
  refine ⟨a, xs, fun x => (held H x).map Int.ofNat, rfl, SqL.of hx, fun x m => ?_, fun h2 x m => ?_, fun ys p hst hsb hp => ?_⟩
  · obtain ⟨p, _, ⟨t, rfl, e⟩, ep⟩ := hh x m
    refine ⟨t, rfl, ?_⟩
    show SqT K H t (((held H (.ref t)).map Int.ofNat).map V.int)
    rw [ep, List.map_map]
    exact SqT.of e
  · obtain ⟨p, hp, _, ep⟩ := hh x m
    show (held H x).map Int.ofNat ≠ []
    rw [ep]
    intro z
    have hpn : p = [] := List.map_eq_nil_iff.mp z
    have hi := (hL.mem p).mp hp
    rw [hpn] at hi
    have hs0 : s = [] := hi.2.symm
    have hl := hL.len hne
    rw [hs0, SyM.cnt_nil] at hl
    rw [hT.len] at h2
    omega
  · have hm : (ys.map (held H)).Perm L := by
      have e : xs.map (held H) = L := hT.isMap fun x y _ h => held_is h
      rw [← e]
      exact hsb.perm.map _
    have hpw : (ys.map (held H)).Pairwise fun p q => lex q p = false := by
      refine List.pairwise_map.mpr (hst.imp fun {x y} hxy => ?_)
      rw [← lexN]
      exact hxy
    have e := hL.sorted hne hs hm hpw
    refine q p ys hp ?_
    rw [← e]
    refine All2.mapped fun y hy => ?_
    obtain ⟨p', _, h, ep⟩ := hh y (hsb.perm.mem_iff.mp hy)
    rw [ep]
    exact h.same (Same.new (Same.refl H) hp)
end Sy
/-! Syncedwords: numbers and tuples of numbers as data; what a law has at hand. -/
namespace Sy
open PySem PySem.Spec PyProof.Rows L2 SyM
/-- numbers as data -/
theorem dp_nums {K : PySem.W.Frag} {H : Hp} : ∀ l : List Nat, DpAll K H (l.map iN) (l.map fun k => PyData.int (k : Nat))
  | [] => .nil
  | k :: l => .cons (.int _) (dp_nums l)
theorem okD_nums {l : List Nat} (h : l.length ≤ 1000) : okD 2 (.tuple (l.map fun k => PyData.int (k : Nat))) :=
  ⟨by rw [List.length_map]; omega, fun d hd => by
    obtain ⟨b, _, rfl⟩ := List.mem_map.mp hd
    trivial⟩
theorem nth_len (W : List (List Nat)) : ∀ (n : Nat) (s : List Nat) (i : Nat), (nth W n s i).length ≤ n
  | 0, _, _ => Nat.le_refl _
  | _ + 1, [], _ => Nat.zero_le _
  | n + 1, c :: s, i => by
    rw [SyM.nth, List.length_cons]
    exact Nat.succ_le_succ (nth_len W n _ _)
theorem rg_nums (n : Nat) : rgV 0 ((n : Int) + 1) = (List.range (n + 1)).map iN := by
  unfold rgV
  rw [show ((n : Int) + 1 - 0).toNat = n + 1 by omega]
  refine List.map_congr_left fun k _ => ?_
  show V.int (0 + (k : Nat)) = V.int (k : Nat)
  rw [Int.zero_add]
theorem canAll (l : List Nat) : PyData.canLayAll0 (l.map fun k => PyData.int (k : Nat)) = true := by
  induction l with
  | nil => rfl
  | cons _ r ih => simp [PyData.canLayAll0, PyData.canLay0, ih]
theorem deepAll (l : List Nat) : PyData.depthAll (l.map fun k => PyData.int (k : Nat)) = 0 := by
  induction l with
  | nil => rfl
  | cons _ r ih => simp [PyData.depthAll, PyData.depth, ih]
theorem shaped_nums (l : List Nat) : SeqAt.shaped (.tuple (l.map fun k => PyData.int (k : Nat))) = true := by
  simp [SeqAt.shaped, PyData.canLay0, PyData.depth, canAll, deepAll]
theorem flatN (l : List Nat) : (l.map iN).all flatV = true := by
  rw [List.all_map]
  exact List.all_eq_true.mpr fun _ _ => rfl
theorem inVN (k : Nat) (l : List Nat) : inV (iN k) (l.map iN) = decide (k ∈ l) := by
  unfold inV
  rw [List.any_map]
  by_cases h : k ∈ l
  · rw [decide_eq_true h]
    refine List.any_eq_true.mpr ⟨k, h, ?_⟩
    show eqV (V.int (k : Nat)) (V.int (k : Nat)) = true
    simp [eqV]
  · rw [decide_eq_false h]
    refine Bool.eq_false_iff.mpr fun e => h ?_
    obtain ⟨j, hj, e⟩ := List.any_eq_true.mp e
    have e : eqV (V.int (j : Nat)) (V.int (k : Nat)) = true := e
    have : (j : Int) = (k : Int) := by simpa [eqV] using e
    have : j = k := by omega
    exact this ▸ hj
/-- tuples of numbers as data -/
abbrev dTup (p : List Nat) : PyData := .tuple (p.map fun k => PyData.int (k : Nat))
theorem canTups : ∀ L : List (List Nat), PyData.canLayAll0 (L.map dTup) = true
  | [] => rfl
  | p :: L => by simp [PyData.canLayAll0, PyData.canLay0, canAll, canTups L]
theorem deepTups : ∀ L : List (List Nat), PyData.depthAll (L.map dTup) ≤ 2
  | [] => Nat.zero_le _
  | p :: L => by
    have h := deepTups L
    simp [PyData.depthAll, PyData.depth, deepAll] at h ⊢
    omega
theorem shaped_tups (L : List (List Nat)) : SeqAt.shaped (.list (L.map dTup)) = true := by
  have h := deepTups L
  simp [SeqAt.shaped, PyData.canLay0, PyData.depth, canTups]
  omega
theorem eqv_nil (L : List (List Nat)) : PyData.eqv (.list (L.map dTup)) (.list []) = L.isEmpty := by
  cases L <;> rfl
theorem dp_tups {K : PySem.W.Frag} {H : Hp} {xs : List V} {L : List (List Nat)} (h : Tups H xs L) : DpAll K H xs (L.map dTup) := by
  induction h with
  | nil => exact .nil
  | cons a _ ih =>
    obtain ⟨t, rfl, e⟩ := a
    exact .cons (.tup (SqT.of e) (dp_nums _)) ih
theorem isEmpty_dec {α : Type} (l : List α) : (!l.isEmpty) = decide (0 < l.length) := by
  cases l <;> rfl
def spLaw (K : PySem.W.Frag) : Sp := fun vs H Q _ => ∃ (a : Addr) (ns : List Int), vs = [.ref a] ∧ SqL K H a (ns.map V.int) ∧ ns.length ≤ 63 ∧ ∀ H', Q (.bl true) H'
structure Has (P : Program) (w : World) (K : PySem.W.Frag) (mg : Str → Option Value) (base : Heap) (x : Str) (ps : List Str) (k : Nat) (sp : Sp) : Prop where
  ex : ∃ f fd, mg x = some (.ref f) ∧ PySem.W.keepIn K (.ref f) = true ∧ Binds K fd ps [] ∧ FnOk P w K mg base CX0 k f fd ps sp
end Sy
/-! Syncedwords: counts as the law makes them. -/
namespace Sy
open PySem PySem.Spec PyProof.Rows L2 SyM
open C8 (pss_cut tCut)
abbrev sCounts : Stmt := topS 44
abbrev nCounts : List Str := ["code", "string", "found", "at", "word"]
theorem scCounts : FnScope nCounts ["code", "string"] (defScope sCounts) := ⟨rfl, rfl, rfl, by decide +kernel, rfl, by decide +kernel, by decide +kernel⟩
section
variable {P : Program} {w : World} {K : PySem.W.Frag} {mg : Str → Option Value} {base : Heap}
theorem ok_counts {f : Addr} {fd : FuncData} (F : Fun K "_law_counts" "_law_counts" sCounts f fd) (ml : mg "len" = none) (mr : mg "range" = none) (mu : mg "sum" = none) : FnOk P w K mg base CX0 1 f fd ["code", "string"] (spAhead K) := by
  refine F.ok scCounts (fun vs H Q E h => ?_) (fun cdv A outer s H vs Q E hr h => ?_)
  · obtain ⟨a, ws, z, rfl, _⟩ := h
    rfl
  · obtain ⟨a, ws, z, rfl, hT, hg, hz, q⟩ := h
    have hz24 := hz.2
    have ez := TL.len_tl z
    refine ⟨_, (pss_cons (ps_set (i := 2) scCounts.nd rfl (.inr rfl) (pe_lst (pa_cons pe_int pa_nil)))
       (pss_cons (ps_for PassesOwn.never rfl (pi_range2 (by rfl) mr (pa_cons pe_int (pa_cons (pe_op op_add (pe_callB call_len_str (by rfl) ml PySem.boot_len (pa_cons (pv 1) pa_nil)) pe_int) pa_nil))) (pg_name (i := 3) scCounts.nd rfl (Or.inr rfl)) (pss_one (ps_expr (pe_bm PySem.F.plainAttrs_list PySem.F.slot_list_append PySem.F.type_list_append mt_append (pv 2) (pa_cons (pe_callB (cr_sum rfl) (by rfl) mu (by decide +kernel) (pa_cons (pe_lc (own := [("word", 4)]) (g := (gName 4)) rfl scCounts.nd (pi_tup (pv 0)) (blkOk_by (own := [("word", 4)]) (N := nCounts) (sc := defScope sCounts) (by decide +kernel)) (fun _ _ _ _ _ => (pg_name (i := 4) scCounts.nd rfl (Or.inl rfl))) (fun _ _ _ _ _ => (pts_one (PW.pt (pw_and (pt_cmpR op_le (pe_callB call_len_str (by rfl) ml PySem.boot_len (pa_cons (pv 4) pa_nil)) (pv 3) (nomark _)) (pw_and1 (pt_cmpR op_eq (pe_slice sl_str (pv 1) (po_some (pe_op op_sub (pv 3) (pe_callB call_len_str (by rfl) ml PySem.boot_len (pa_cons (pv 4) pa_nil)))) (po_some (pv 3))) (pv 4) (nomark _))))))) (fun _ _ _ _ _ => (pe_ix (r := rIxL K) ix_list (pv 2) (pe_op op_sub (pv 3) (pe_callB call_len_str (by rfl) ml PySem.boot_len (pa_cons (pv 4) pa_nil))) (fun _ _ => rfl)))) pa_nil)) pa_nil)))))
       (pss_one (ps_ret (pv 2))))), ?_⟩
    refine ⟨(by show 1 ≤ sizeLine; decide), fun C nC => ?_⟩
    refine ⟨_, rfl, z, rfl, by rw [sizeLine_eq]; omega, _, 1, rfl, rfl, 1, _, rfl, ⟨by decide, by decide, by omega, by omega⟩, ?_⟩
    refine for_range (lo := 1) (n := ((z.length : Int) + 1 - 1).toNat) (fun i σ H' => ∃ y3, σ = [some (.ref a), some (.str z), some (.ref C), y3, none] ∧ Same H H' ∧ H' C = some (.lst (((List.range (i + 1)).map fun k => cnt (Ws ws) ((TL.tl z).take k)).map iN)))
      ⟨none, rfl, Same.new (Same.refl H) nC, by rw [upd_same]; rfl⟩ (fun i σ H' hi hP => ?_) (fun σ H' hP => ?_)
    · obtain ⟨y3, rfl, sm, hC⟩ := hP
      have hil : i < z.length := by omega
      have hrl : ((TL.tl z).take (i + 1)).length = i + 1 := by
        rw [List.length_take]
        omega
      generalize er : (TL.tl z).take (i + 1) = r at hrl
      refine ⟨_, rfl, .inl ⟨rfl, _, SqL.of hC⟩, ?_⟩
      refine ⟨_, rfl, a, rfl, ⟨_, Same.tup sm hT⟩, fun D nD => ?_⟩
      refine lc_tup (xs := ws.map V.str) (fun j H2 => Same H' H2 ∧ H2 D = some (.lst ((((ws.take j).filter fun y => suf (TL.tl y) r).map fun y => cnt (Ws ws) ((TL.tl z).take (i + 1 - y.length))).map iN))) ⟨Same.new (Same.refl H') nD, by rw [upd_same]; rfl⟩ (fun j H2 _ hP => Same.tup (sm.trans hP.1) hT) (fun j x H2 hx hP => ?_) (fun H2 hP => ?_)
      · obtain ⟨sm2, hl⟩ := hP
        rw [List.getElem?_map] at hx
        cases hw : ws[j]? with
        | none =>
          rw [hw] at hx
          cases hx
        | some y =>
          rw [hw] at hx
          cases Option.some.inj hx
          have hyw := hg.word y (List.mem_of_getElem? hw)
          have h6 := hg.six
          have hC2 := sm2 _ _ hC
          have ef := filter_take (fun y => suf (TL.tl y) r) hw
          have no : suf (TL.tl y) r = false → Same H' H2 ∧ H2 D = some (.lst ((((ws.take (j + 1)).filter fun y => suf (TL.tl y) r).map fun y => cnt (Ws ws) ((TL.tl z).take (i + 1 - y.length))).map iN)) := fun hp => by
            rw [ef, hp, if_neg Bool.false_ne_true, List.append_nil]
            exact ⟨sm2, hl⟩
          have ey := TL.len_tl y
          refine ⟨rfl, _, rfl, y, rfl, by rw [sizeLine_eq]; omega, _, rfl, _, _, rfl, rfl, _, rfl, ?_⟩
          by_cases hle : y.length ≤ i + 1
          · rw [decide_eq_true (show (y.length : Int) ≤ 1 + (i : Nat) by omega)]
            refine iteT ⟨_, rfl, _, rfl, _, rfl, y, rfl, by rw [sizeLine_eq]; omega, _, _, rfl, rfl, _, rfl, _, rfl, _, rfl, z, rfl, by rw [sizeLine_eq]; omega, _, rfl, rfl, _, rfl, ?_⟩
            have em : TL.tl (cutS z (some (1 + (i : Int) - y.length)) (some (1 + (i : Int)))) = r.drop (r.length - (TL.tl y).length) := by
              rw [show (1 + (i : Int) - y.length) = ((i + 1 - y.length : Nat) : Int) by omega, show (1 + (i : Int)) = ((i + 1 : Nat) : Int) by omega, tl_cut_mid z (Nat.sub_le _ _) (by omega), er, hrl, ey]
            by_cases hp : suf (TL.tl y) r = true
            · have hp2 := (of_decide_eq_true hp).2
              rw [decide_eq_true (show V.str (cutS z (some (1 + (i : Int) - y.length)) (some (1 + (i : Int)))) = V.str y by rw [TL.ext_tl (em.trans hp2)])]
              rw [if_pos hp] at ef
              refine iteT ⟨_, rfl, _, rfl, _, rfl, y, rfl, by rw [sizeLine_eq]; omega, _, _, rfl, rfl, C, _, _, iN (cnt (Ws ws) ((TL.tl z).take (i + 1 - y.length))), rfl, rfl, SqL.of hC2, at_of (j := i + 1 - y.length) (by omega) ?_, _, hl, ?_, Same.put' sm2 nD, ?_⟩
              · rw [List.getElem?_map, List.getElem?_map, List.getElem?_range (by omega)]
                rfl
              · have := List.length_filter_le (fun y => suf (TL.tl y) r) (ws.take j)
                rw [List.length_take] at this
                rw [List.length_map, List.length_map, sizeLine_eq]
                omega
              · rw [upd_same, ef, List.map_append, List.map_append]
                rfl
            · have hp' : suf (TL.tl y) r = false := by simpa using hp
              rw [decide_eq_false fun e => hp (decide_eq_true ⟨by omega, by rw [← em]; injection e with e; rw [e]⟩)]
              exact iteF (no hp')
          · rw [decide_eq_false (show ¬ (y.length : Int) ≤ 1 + (i : Nat) by omega)]
            exact iteF (iteF (no (decide_eq_false fun e => hle (by have := e.1; omega))))
      · obtain ⟨sm2, hl⟩ := hP
        rw [List.length_map, List.take_length] at hl
        refine ⟨D, _, rfl, SqL.of (by rw [← iN_ints]; exact hl), ?_⟩
        rw [sum_ints, sum_filter]
        have hne : (TL.tl z).take (i + 1) ≠ [] := fun e => by
          rw [er] at e
          rw [e] at hrl
          exact absurd hrl (by simp)
        have ec : sumL (fun y => if suf (TL.tl y) r = true then cnt (Ws ws) ((TL.tl z).take (i + 1 - y.length)) else 0) ws = cnt (Ws ws) ((TL.tl z).take (i + 1)) := by
          rw [cnt_right hg.ne hne, sumL_mapped, er]
          refine sumL_congr fun y hy => ?_
          by_cases hp : suf (TL.tl y) r = true
          · rw [if_pos hp, if_pos hp, hrl, ← er, List.take_take, ← TL.len_tl, Nat.min_eq_left (Nat.sub_le _ _)]
          · rw [if_neg hp, if_neg hp]
        rw [ec]
        refine ⟨C, _, _, rfl, rfl, sm2 _ _ hC, ?_, _, rfl, Same.put' (sm.trans sm2) nC, ?_⟩
        · rw [List.length_map, List.length_map, List.length_range, sizeLine_eq]
          omega
        · rw [upd_same, List.range_succ (n := i + 1), List.map_append, List.map_append]
          rfl
    · obtain ⟨y3, rfl, sm, hC⟩ := hP
      rw [show ((z.length : Int) + 1 - 1).toNat + 1 = (TL.tl z).length + 1 by omega] at hC
      exact ⟨_, rfl, q C H' sm nC hC⟩
end
end Sy
/-! Syncedwords: the law of longer strings. -/
namespace Sy
open PySem PySem.Spec PyProof.Rows L2 SyM
open C8 (pss_cut tCut)
abbrev sLaw : Stmt := topS 45
abbrev nLaw : List Str := ["script", "stream", "code", "string", "counts", "many", "turned", "back", "both", "places", "turn", "at", "parse", "more", "k"]
theorem scLaw : FnScope nLaw ["script"] (defScope sLaw) := ⟨rfl, rfl, rfl, by decide +kernel, rfl, by decide +kernel, by decide +kernel⟩
theorem range_rev (n : Nat) : (List.range (n + 1)).reverse = (List.range (n + 1)).map fun k => n - k := by
  rw [← PySem.W.krv_range (n + 1)]
  refine List.map_congr_left fun k _ => ?_
  omega
theorem rev_ca {W : List (List Nat)} (h : NE W) (s : List Nat) : (ca (W.map List.reverse) s.reverse).reverse = cb W s := by
  rw [cb_list]
  unfold ca
  rw [← List.map_reverse, List.length_reverse, range_rev, List.map_map]
  refine List.map_congr_left fun k hk => ?_
  have := List.mem_range.mp hk
  show cnt (W.map List.reverse) (s.reverse.take (s.length - k)) = cnt W (s.drop k)
  rw [List.take_reverse, show s.length - (s.length - k) = k by omega]
  exact cnt_rev h _ _ (Nat.le_refl _)
theorem th_rev {W : List (List Nat)} (h : NE W) (s : List Nat) {k : Nat} (hk : k ≤ s.length) : th (W.map List.reverse) s.reverse k = th W s (s.length - k) := by
  unfold th
  rw [List.take_reverse, List.drop_reverse, cnt_rev h _ _ (Nat.le_refl _), cnt_rev h _ _ (Nat.le_refl _), Nat.mul_comm]
theorem rev_bounds {W : List (List Nat)} (h : NE W) (s : List Nat) : (List.range (s.length + 1)).filter (fun k => decide (0 < th (W.map List.reverse) s.reverse k)) = (((List.range (s.length + 1)).filter fun k => decide (0 < th W s k)).map fun k => s.length - k).reverse := by
  rw [← List.map_reverse, ← List.filter_reverse, range_rev, List.filter_map, List.map_map]
  have e1 : ((List.range (s.length + 1)).filter ((fun k => decide (0 < th W s k)) ∘ fun k => s.length - k)) = (List.range (s.length + 1)).filter (fun k => decide (0 < th (W.map List.reverse) s.reverse k)) := by
    refine List.filter_congr fun k hk => ?_
    have := List.mem_range.mp hk
    show decide (0 < th W s (s.length - k)) = _
    rw [th_rev h s (by omega)]
  rw [e1]
  have e2 : ∀ l : List Nat, (∀ k ∈ l, k ≤ s.length) → l = l.map ((fun k => s.length - k) ∘ fun k => s.length - k) := fun l hl => by
    induction l with
    | nil => rfl
    | cons k l ih =>
      rw [List.map_cons, ← ih fun j hj => hl j (List.mem_cons_of_mem _ hj)]
      congr 1
      have := hl k List.mem_cons_self
      show k = s.length - (s.length - k)
      omega
  exact e2 _ fun k hk => by
    have := List.mem_range.mp (List.mem_filter.mp hk).1
    omega
theorem revS_inj {x y : Str} (e : revS x = revS y) : x = y := by
  have h : (TL.tl x).reverse = (TL.tl y).reverse := congrArg TL.tl e
  exact TL.ext_tl (List.reverse_inj.mp h)
theorem tl_revS (z : Str) : TL.tl (revS z) = (TL.tl z).reverse := rfl
theorem len_revS (z : Str) : (revS z).length = z.length := by
  rw [TL.len_tl, tl_revS, List.length_reverse, ← TL.len_tl]
theorem Lets.rev {m : Int} {z : Str} (h : Lets m z) : Lets m (revS z) := fun c hc => h c (by
  rw [tl_revS] at hc
  exact List.mem_reverse.mp hc)
theorem GoodC.rev {ws : List Str} (h : GoodC ws) : GoodC (ws.map revS) where
  nd := List.Pairwise.map revS (fun a b hn e => hn (revS_inj e)) h.nd
  six := by
    rw [List.length_map]
    exact h.six
  word := fun z hz => by
    obtain ⟨y, hy, rfl⟩ := List.mem_map.mp hz
    obtain ⟨a, b, c⟩ := h.word y hy
    rw [len_revS]
    exact ⟨a.rev, b, c⟩
theorem GoodS.rev {z : Str} (h : GoodS z) : GoodS (revS z) := ⟨h.1.rev, by rw [len_revS]; exact h.2⟩
theorem ws_rev (ws : List Str) : Ws (ws.map revS) = (Ws ws).map List.reverse := by
  show (ws.map revS).map TL.tl = (ws.map TL.tl).map List.reverse
  rw [List.map_map, List.map_map]
  rfl
theorem lex_ints : ∀ a b : List Nat, HT.lexLt (a.map Int.ofNat) (b.map Int.ofNat) = lex a b
  | [], [] => rfl
  | [], _ :: _ => rfl
  | _ :: _, [] => rfl
  | x :: xs, y :: ys => by
    show (if Int.ofNat x = Int.ofNat y then HT.lexLt (xs.map Int.ofNat) (ys.map Int.ofNat) else decide (Int.ofNat x < Int.ofNat y)) = (if x = y then lex xs ys else decide (x < y))
    by_cases h : x = y
    · rw [if_pos h, if_pos (by rw [h]), lex_ints xs ys]
    · rw [if_neg h, if_neg fun e => h (Int.ofNat.inj e)]
      exact decide_eq_decide.mpr Int.ofNat_lt
section
variable {P : Program} {w : World} {K : PySem.W.Frag} {mg : Str → Option Value} {base : Heap}
set_option maxHeartbeats 0 in
theorem ok_law {f : Addr} {fd : FuncData} (F : Fun K "law" "law" sLaw f fd) (tS : Has P w K mg base "_law_stream" ["script"] 1 (spStream K)) (tN : Has P w K mg base "_law_next" ["stream", "many"] 1 spNext) (tT : Has P w K mg base "_law_string" ["stream", "least", "most", "letters"] 2 spString)
    (tC : Has P w K mg base "_law_code" ["stream", "many", "most"] 4 spCode) (tE : Has P w K mg base "_law_equal" ["actual", "due"] 3 (spEqual K 2)) (tM : Has P w K mg base "_law_message" ["stream", "code", "most"] 4 (spMsg K)) (tK : Has P w K mg base "_law_counts" ["code", "string"] 1 (spAhead K))
    (tB : Has P w K mg base "backwards" ["code"] 5 (spBack K)) (tP : Has P w K mg base "count_parses" ["code", "string"] 5 (spCount K)) (tO : Has P w K mg base "boundaries" ["code", "string"] 5 (spBounds K)) (tQ : Has P w K mg base "common_boundaries" ["code", "string"] 5 (spCommon K))
    (tH : Has P w K mg base "nth_parse" ["code", "string", "index"] 5 (spNth K)) (tI : Has P w K mg base "index_of_parse" ["code", "parse"] 6 (spIndex K)) (tZ : Has P w K mg base "string_of" ["code", "parse"] 5 (spStringOf K))
    (ml : mg "len" = none) (mL : mg "list" = none) (mr : mg "range" = none) (mt : mg "tuple" = none) (mm : mg "min" = none) : FnOk P w K mg base CX0 7 f fd ["script"] (spLaw K) := by
  obtain ⟨fS, fdS, gS, kS, bS, GS⟩ := tS.ex
  obtain ⟨fN, fdN, gN, kN, bN, GN⟩ := tN.ex
  obtain ⟨fT, fdT, gT, kT, bT, GT⟩ := tT.ex
  obtain ⟨fC, fdC, gC, kC, bC, GC⟩ := tC.ex
  obtain ⟨fE, fdE, gE, kE, bE, GE⟩ := tE.ex
  obtain ⟨fM, fdM, gM, kM, bM, GM⟩ := tM.ex
  obtain ⟨fK, fdK, gK, kK, bK, GK⟩ := tK.ex
  obtain ⟨fB, fdB, gB, kB, bB, GB⟩ := tB.ex
  obtain ⟨fP, fdP, gP, kP, bP, GP⟩ := tP.ex
  obtain ⟨fO, fdO, gO, kO, bO, GO⟩ := tO.ex
  obtain ⟨fQ, fdQ, gQ, kQ, bQ, GQ⟩ := tQ.ex
  obtain ⟨fH, fdH, gH, kH, bH, GH⟩ := tH.ex
  obtain ⟨fI, fdI, gI, kI, bI, GI⟩ := tI.ex
  obtain ⟨fZ, fdZ, gZ, kZ, bZ, GZ⟩ := tZ.ex
  refine F.ok scLaw (fun vs H Q E h => ?_) (fun cdv A outer s H vs Q E hr h => ?_)
  · obtain ⟨a, ns, rfl, _⟩ := h
    rfl
  · obtain ⟨a, ns, rfl, hS, hlen, q⟩ := h
    have hr1 : Room 1 _ := hr.mono (by decide)
    have hr2 : Room 2 _ := hr.mono (by decide)
    have hr3 : Room 4 _ := hr.mono (by decide)
    have hr4 : Room 4 _ := hr.mono (by decide)
    refine ⟨_, (pss_cons (ps_set (i := 1) scLaw.nd rfl (.inl rfl) (pe_call GS (hr.mono (by decide)) (by rfl) gS kS bS .nil pass0 (pa_cons (pv 0) pa_nil)))
       (pss_cons (ps_set (i := 2) scLaw.nd rfl (.inl rfl) (pe_call GC (hr.mono (by decide)) (by rfl) gC kC bC .nil pass0 (pa_cons (pv 1) (pa_cons pe_int (pa_cons pe_int pa_nil)))))
       (pss_cons (ps_set (i := 3) scLaw.nd rfl (.inr rfl) (pe_call GM (hr.mono (by decide)) (by rfl) gM kM bM .nil pass0 (pa_cons (pv 1) (pa_cons (pv 2) (pa_cons pe_int pa_nil)))))
       (pss_cons (ps_set (i := 4) scLaw.nd rfl (.inr rfl) (pe_call GK (hr.mono (by decide)) (by rfl) gK kK bK .nil pass0 (pa_cons (pv 2) (pa_cons (pv 3) pa_nil))))
       (pss_cons (ps_set (i := 5) scLaw.nd rfl (.inr rfl) (pe_ix (r := rIxL K) ix_list (pv 4) (pe_un un_neg pe_int) (fun _ _ => rfl)))
       (pss_cons (ps_set (i := 6) scLaw.nd rfl (.inl rfl) (pe_call GB (hr.mono (by decide)) (by rfl) gB kB bB .nil pass0 (pa_cons (pv 2) pa_nil)))
       (pss_cons (ps_if (pt_not (pt_val (pe_call GE (hr.mono (by decide)) (by rfl) gE kE bE .nil pass0 (pa_cons (pe_lst (pa_cons (pe_call GP (hr.mono (by decide)) (by rfl) gP kP bP .nil pass0 (pa_cons (pv 2) (pa_cons (pv 3) pa_nil))) (pa_cons (pe_call GP (hr.mono (by decide)) (by rfl) gP kP bP .nil pass0 (pa_cons (pv 6) (pa_cons (pe_rev_str (pv 3)) pa_nil))) pa_nil))) (pa_cons (pe_lst (pa_cons (pv 5) (pa_cons (pv 5) pa_nil))) pa_nil))))) pss_never pss_nil)
       (pss_cons (ps_set (i := 7) scLaw.nd rfl (.inr rfl) (pe_revL (pe_call GK (hr.mono (by decide)) (by rfl) gK kK bK .nil pass0 (pa_cons (pv 6) (pa_cons (pe_rev_str (pv 3)) pa_nil)))))
       (pss_cons (ps_set (i := 8) scLaw.nd rfl (.inr rfl) (pe_lc (own := [("k", 14)]) (g := (gName 14)) (tt := tYes) rfl scLaw.nd (pi_range1 (by rfl) mr (pa_cons (pe_op op_add (pe_callB call_len_str (by rfl) ml PySem.boot_len (pa_cons (pv 3) pa_nil)) pe_int) pa_nil)) (blkOk_by (own := [("k", 14)]) (N := nLaw) (sc := defScope sLaw) (by decide +kernel)) (fun _ _ _ _ _ => (pg_name (i := 14) scLaw.nd rfl (Or.inl rfl))) (fun _ _ _ _ _ => pts_nil) (fun _ _ _ _ _ => (pe_op op_mul (pe_ix (r := rIxL K) ix_list (pv 4) (pv 14) (fun _ _ => rfl)) (pe_ix (r := rIxL K) ix_list (pv 7) (pv 14) (fun _ _ => rfl))))))
       (pss_cons (ps_set (i := 9) scLaw.nd rfl (.inl rfl) (pe_listRg rfl (by rfl) mL (prg_1 (by rfl) mr (pe_op op_add (pe_callB call_len_str (by rfl) ml PySem.boot_len (pa_cons (pv 3) pa_nil)) pe_int))))
       (pss_cons (ps_if (pt_not (pt_val (pe_call GE (hr.mono (by decide)) (by rfl) gE kE bE .nil pass0 (pa_cons (pe_call GO (hr.mono (by decide)) (by rfl) gO kO bO .nil pass0 (pa_cons (pv 2) (pa_cons (pv 3) pa_nil))) (pa_cons (pe_callTy call_tuple_of (by rfl) mt (by decide +kernel) (pa_cons (pe_lc (own := [("k", 14)]) (g := (gName 14)) rfl scLaw.nd (pi_list (pv 9)) (blkOk_by (own := [("k", 14)]) (N := nLaw) (sc := defScope sLaw) (by decide +kernel)) (fun _ _ _ _ _ => (pg_name (i := 14) scLaw.nd rfl (Or.inl rfl))) (fun _ _ _ _ _ => (pts_one (pt_cmpR op_gt (pe_ix (r := rIxL K) ix_list (pv 8) (pv 14) (fun _ _ => rfl)) pe_int (nomark _)))) (fun _ _ _ _ _ => (pv 14))) pa_nil)) pa_nil))))) pss_never pss_nil)
       (pss_cons (ps_if (pt_not (pt_val (pe_call GE (hr.mono (by decide)) (by rfl) gE kE bE .nil pass0 (pa_cons (pe_call GQ (hr.mono (by decide)) (by rfl) gQ kQ bQ .nil pass0 (pa_cons (pv 2) (pa_cons (pv 3) pa_nil))) (pa_cons (pe_callTy call_tuple_of (by rfl) mt (by decide +kernel) (pa_cons (pe_lc (own := [("k", 14)]) (g := (gName 14)) rfl scLaw.nd (pi_list (pv 9)) (blkOk_by (own := [("k", 14)]) (N := nLaw) (sc := defScope sLaw) (by decide +kernel)) (fun _ _ _ _ _ => (pg_name (i := 14) scLaw.nd rfl (Or.inl rfl))) (fun _ _ _ _ _ => (pts_one (pt_cmpR op_eq (pe_ix (r := rIxL K) ix_list (pv 8) (pv 14) (fun _ _ => rfl)) (pv 5) (nomark _)))) (fun _ _ _ _ _ => (pv 14))) pa_nil)) pa_nil))))) pss_never pss_nil)
       (pss_cons (ps_if (pt_cmpR (op_neD hr.units) (pe_call GO (hr.mono (by decide)) (by rfl) gO kO bO .nil pass0 (pa_cons (pv 6) (pa_cons (pe_rev_str (pv 3)) pa_nil))) (pe_rev_tup (pe_callTy call_tuple_of (by rfl) mt (by decide +kernel) (pa_cons (pe_lc (own := [("k", 14)]) (g := (gName 14)) rfl scLaw.nd (pi_list (pv 9)) (blkOk_by (own := [("k", 14)]) (N := nLaw) (sc := defScope sLaw) (by decide +kernel)) (fun _ _ _ _ _ => (pg_name (i := 14) scLaw.nd rfl (Or.inl rfl))) (fun _ _ _ _ _ => (pts_one (pt_cmpR op_gt (pe_ix (r := rIxL K) ix_list (pv 8) (pv 14) (fun _ _ => rfl)) pe_int (nomark _)))) (fun _ _ _ _ _ => (pe_op op_sub (pe_callB call_len_str (by rfl) ml PySem.boot_len (pa_cons (pv 3) pa_nil)) (pv 14)))) pa_nil))) (nomark _)) pss_never pss_nil)
       (pss_cons (ps_for PassesOwn.never rfl (pi_range1 (by rfl) mr (pa_cons pe_int pa_nil)) (pg_name (i := 10) scLaw.nd rfl (Or.inl rfl)) (pss_cons (ps_set (i := 11) scLaw.nd rfl (.inl rfl) (pe_call GN (hr.mono (by decide)) (by rfl) gN kN bN .nil pass0 (pa_cons (pv 1) (pa_cons (pe_callB (call_min2 rfl) (by rfl) mm (by decide +kernel) (pa_cons (pv 5) (pa_cons pe_int pa_nil))) pa_nil))))
         (pss_cons (ps_set (i := 12) scLaw.nd rfl (.inl rfl) (pe_call GH (hr.mono (by decide)) (by rfl) gH kH bH .nil pass0 (pa_cons (pv 2) (pa_cons (pv 3) (pa_cons (pv 11) pa_nil)))))
         (pss_cons (ps_if (pt_not (pt_val (pe_call GE (hr.mono (by decide)) (by rfl) gE kE bE .nil pass0 (pa_cons (pe_lst (pa_cons (pe_call GI (hr.mono (by decide)) (by rfl) gI kI bI .nil pass0 (pa_cons (pv 2) (pa_cons (pv 12) pa_nil))) (pa_cons (pe_call GZ (hr.mono (by decide)) (by rfl) gZ kZ bZ .nil pass0 (pa_cons (pv 2) (pa_cons (pv 12) pa_nil))) pa_nil))) (pa_cons (pe_lst (pa_cons (pv 11) (pa_cons (pv 3) pa_nil))) pa_nil))))) pss_never pss_nil)
         (pss_one (ps_if (PW.pt (pw_and (pt_cmpR op_lt (pe_op op_add (pv 11) pe_int) (pv 5) (nomark _)) (pw_and1 (pt_not (pt_cmpR (op_ltT hr.units0) (pv 12) (pe_call GH (hr.mono (by decide)) (by rfl) gH kH bH .nil pass0 (pa_cons (pv 2) (pa_cons (pv 3) (pa_cons (pe_op op_add (pv 11) pe_int) pa_nil)))) (nomark _)))))) pss_never pss_nil))))))
       (pss_cons (ps_set (i := 13) scLaw.nd rfl (.inl rfl) (pe_call GT (hr.mono (by decide)) (by rfl) gT kT bT .nil pass0 (pa_cons (pv 1) (pa_cons pe_int (pa_cons pe_int (pa_cons pe_int pa_nil))))))
       (pss_one (ps_ret (pe_or (pe_cmpR op_in_seq (pv 13) (pv 2) (by rfl)) (pe_or (pe_cmpR op_gt (pe_callB call_len_seq (by rfl) ml PySem.boot_len (pa_cons (pv 2) pa_nil)) pe_int (nomark _)) (pe_one (pe_cmpR op_ge (pe_call GP (hr.mono (by decide)) (by rfl) gP kP bP .nil pass0 (pa_cons (pe_op (r := rCatSy K) op_catSy (pv 2) (pe_tup (pa_cons (pv 13) pa_nil))) (pa_cons (pv 3) pa_nil))) (pv 5) (nomark _)))))))))))))))))))))), ?_⟩
    -- stream, code, string
    refine ⟨_, rfl, a, ns, rfl, hS, hlen, fun l p H1 s1 np nl st1 => ?_⟩
    refine ⟨_, rfl, l, p, 6, 5, rfl, st1, by decide, by decide, by decide, by decide, fun c ws H2 kp2 st2 nc hc nd hle hzw => ?_⟩
    have hg : GoodC ws := ⟨nd, by omega, hzw⟩
    have hT2 : SqT K H2 c (ws.map V.str) := SqT.of hc
    refine ⟨_, rfl, _, rfl, l, p, c, ws, 24, rfl, st2, hT2, hg, by decide, by decide, fun z H3 kp3 st3 hz3 hzl hzc => ?_⟩
    have hz : GoodS z := ⟨hz3, by omega⟩
    have hz24 := hz.2
    have ez := TL.len_tl z
    have hT3 : SqT K H3 c (ws.map V.str) := (Lk.of_keep kp3 st2 st3).tup hT2
    -- counts, many
    refine ⟨_, rfl, _, rfl, c, ws, z, rfl, hT3, hg, hz, fun C H4 s4 n4 h4 => ?_⟩
    have eca : ca (Ws ws) (TL.tl z) = (List.range z.length).map (fun k => cnt (Ws ws) ((TL.tl z).take k)) ++ [cnt (Ws ws) (TL.tl z)] := by
      unfold ca
      rw [← ez, List.range_succ, List.map_append]
      congr 1
      show [cnt (Ws ws) ((TL.tl z).take z.length)] = _
      rw [List.take_of_length_le (by omega)]
    refine ⟨_, rfl, 1, rfl, C, _, -1, iN (cnt (Ws ws) (TL.tl z)), rfl, rfl, SqL.of h4, by rw [eca, List.map_append]; exact atI_last _ _, ?_⟩
    -- turned
    refine ⟨_, rfl, c, ws, rfl, Same.tup s4 hT3, hg, fun t H5 s5 ht5 => ?_⟩
    have hgr := hg.rev
    have hzr := hz.rev
    have s45 := s4.trans s5
    -- the counts are equal
    refine ⟨_, rfl, _, rfl, c, ws, z, rfl, Same.tup s45 hT3, hg, hz, fun H6 s6 => ?_⟩
    refine ⟨_, rfl, _, rfl, z, rfl, by rw [sizeLine_eq]; omega, t, _, revS z, rfl, Same.tup s6 ht5, hgr, hzr, fun H7 s7 => ?_⟩
    rw [ws_rev, tl_revS, cnt_rev hg.ne _ _ (Nat.le_refl _)]
    refine ⟨(by show 2 ≤ sizeLine; decide), fun R nR => ⟨_, rfl, _, rfl, (by show 2 ≤ sizeLine; decide), fun U nU => ?_⟩⟩
    refine ⟨.ref R, .ref U, .list (([cnt (Ws ws) (TL.tl z), cnt (Ws ws) (TL.tl z)] : List Nat).map fun k => PyData.int (k : Nat)), rfl, .lst (SqL.of (Same.new (Same.refl _) nU _ _ upd_same)) (dp_nums [cnt (Ws ws) (TL.tl z), cnt (Ws ws) (TL.tl z)]), .lst (SqL.of upd_same) (dp_nums [cnt (Ws ws) (TL.tl z), cnt (Ws ws) (TL.tl z)]), ⟨by show 2 ≤ 100000; decide, fun d hd => ?_⟩, fun H8 s8 => ⟨true, rfl, iteF ?_⟩⟩
    · obtain ⟨b, _, rfl⟩ := List.mem_map.mp hd
      trivial
    have s58 : Same H5 H8 := s6.trans (s7.trans ((Same.new (Same.new (Same.refl H7) nR) nU).trans s8))
    -- back
    refine ⟨_, rfl, _, rfl, z, rfl, by rw [sizeLine_eq]; omega, t, _, revS z, rfl, Same.tup s58 ht5, hgr, hzr, fun D9 H9 s9 n9 h9 => ?_⟩
    refine ⟨D9, _, rfl, SqL.of h9, fun B nB => ?_⟩
    rw [← List.map_reverse, ws_rev, tl_revS, rev_ca hg.ne]
    have s5b : Same H5 (upd H9 B (.lst ((cb (Ws ws) (TL.tl z)).map iN))) := Same.new (s58.trans s9) nB
    have hB := upd_same (H := H9) (a := B) (o := .lst ((cb (Ws ws) (TL.tl z)).map iN))
    generalize upd H9 B (.lst ((cb (Ws ws) (TL.tl z)).map iN)) = HA at s5b hB
    have s4a : Same H4 HA := s5.trans s5b
    have h4a := s4a _ _ h4
    -- both
    refine ⟨_, rfl, z, rfl, by rw [sizeLine_eq]; omega, _, 1, rfl, rfl, _, rfl, by omega, by omega, fun Bo nBo => ?_⟩
    refine lc_range (lo := 0) (n := ((z.length : Int) + 1).toNat) (fun i H' => Same HA H' ∧ H' Bo = some (.lst (((List.range i).map (th (Ws ws) (TL.tl z))).map iN))) ⟨Same.new (Same.refl HA) nBo, by rw [upd_same]; rfl⟩ (fun i H' hi hP => ?_) (fun HB hP => ?_)
    · obtain ⟨sm, hD⟩ := hP
      have hil : i < z.length + 1 := by omega
      refine ⟨rfl, tYes_ok ?_⟩
      refine ⟨_, rfl, _, rfl, C, _, _, iN (cnt (Ws ws) ((TL.tl z).take i)), rfl, rfl, SqL.of (sm _ _ h4a), at_of (j := i) (by omega) (by rw [List.getElem?_map, ca, List.getElem?_map, List.getElem?_range (by omega)]; rfl), ?_⟩
      refine ⟨_, rfl, _, rfl, B, _, _, iN (cnt (Ws ws) ((TL.tl z).drop i)), rfl, rfl, SqL.of (sm _ _ hB), at_of (j := i) (by omega) (by rw [List.getElem?_map, cb_get _ _ i (by omega)]; rfl), ?_⟩
      refine ⟨_, _, rfl, rfl, .inl ⟨by omega, ?_⟩, _, hD, ?_, Same.put' sm nBo, ?_⟩
      · have hb := cnt_bound hg.ne hg.len 24 ((TL.tl z).take i) (by rw [List.length_take]; omega)
        have : (6 : Nat) ^ 24 < 2 ^ 64 := by decide +kernel
        omega
      · rw [List.length_map, List.length_map, List.length_range, sizeLine_eq]
        omega
      · rw [upd_same, List.range_succ, List.map_append, List.map_append]
        show some (HO.lst (_ ++ [V.int _])) = some (HO.lst (_ ++ [V.int ((th (Ws ws) (TL.tl z) i : Nat) : Int)]))
        unfold th
        rw [Int.natCast_mul]
    obtain ⟨sab, hBo⟩ := hP
    rw [show ((z.length : Int) + 1).toNat = z.length + 1 by omega] at hBo
    -- places
    refine ⟨_, rfl, z, rfl, by rw [sizeLine_eq]; omega, _, 1, rfl, rfl, _, rfl, RgOk.of_le (by decide) (by omega) (by decide) (by omega), fun PL nPL => ?_⟩
    rw [rg_nums]
    have spl : Same HA (upd HB PL (.lst ((List.range (z.length + 1)).map iN))) := Same.new sab nPL
    have hPL := upd_same (H := HB) (a := PL) (o := .lst ((List.range (z.length + 1)).map iN))
    have hBoP := Same.new (o := .lst ((List.range (z.length + 1)).map iN)) (Same.refl HB) nPL _ _ hBo
    generalize upd HB PL (.lst ((List.range (z.length + 1)).map iN)) = HP at spl hPL hBoP
    have s3p : Same H3 HP := s4.trans (s4a.trans spl)
    -- the boundaries
    refine ⟨_, rfl, _, rfl, c, ws, z, rfl, Same.tup s3p hT3, hg, hz, fun D1 HB1 sb1 hD1 => ?_⟩
    have hPL1 := sb1 _ _ hPL
    have hBo1 := sb1 _ _ hBoP
    refine ⟨_, rfl, PL, rfl, ⟨_, SqL.of hPL1⟩, fun E1 nE1 => ?_⟩
    refine lc_list (xs := (List.range (z.length + 1)).map iN) (fun i H' => Same HB1 H' ∧ H' E1 = some (.lst (((List.range i).filter fun k => decide (0 < th (Ws ws) (TL.tl z) k)).map iN)))
      ⟨Same.new (Same.refl HB1) nE1, by rw [upd_same]; rfl⟩ (fun i H' _ hP => SqL.of (hP.1 _ _ hPL1)) (fun i x H' hx hP => ?_) (fun H' hP => ?_)
    · obtain ⟨sm, hD⟩ := hP
      have hil : i < z.length + 1 := by
        have := (List.getElem?_eq_some_iff.mp hx).1
        rw [List.length_map, List.length_range] at this
        exact this
      rw [List.getElem?_map, List.getElem?_range hil] at hx
      cases Option.some.inj hx
      have hlt : (((List.range i).filter fun k => decide (0 < th (Ws ws) (TL.tl z) k)).map iN).length < sizeLine := by
        have := List.length_filter_le (fun k => decide (0 < th (Ws ws) (TL.tl z) k)) (List.range i)
        rw [List.length_range] at this
        rw [List.length_map, sizeLine_eq]
        omega
      refine ⟨rfl, _, rfl, _, rfl, Bo, _, _, iN (th (Ws ws) (TL.tl z) i), rfl, rfl, SqL.of (sm _ _ hBo1), at_of (j := i) rfl (by rw [List.getElem?_map, List.getElem?_map, List.getElem?_range hil]; rfl), _, 0, rfl, rfl, _, rfl, ?_⟩
      by_cases h0 : 0 < th (Ws ws) (TL.tl z) i
      · rw [decide_eq_true (show (0 : Int) < ((th (Ws ws) (TL.tl z) i : Nat) : Int) from by omega)]
        refine iteT ⟨_, rfl, _, hD, hlt, Same.put' sm nE1, ?_⟩
        rw [upd_same, filter_range, decide_eq_true h0, if_pos rfl, List.map_append]
        rfl
      · rw [decide_eq_false (show ¬ (0 : Int) < ((th (Ws ws) (TL.tl z) i : Nat) : Int) from by omega)]
        refine iteF ⟨sm, ?_⟩
        rw [filter_range, decide_eq_false h0, if_neg Bool.false_ne_true, List.append_nil]
        exact hD
    obtain ⟨se1, hE1⟩ := hP
    rw [List.length_map, List.length_range] at hE1
    refine ⟨E1, _, rfl, .inl ⟨SqL.of hE1, fun T1 nT1 => ?_⟩⟩
    have hlr : ∀ p : Nat → Bool, ((List.range (z.length + 1)).filter p).length ≤ 1000 := fun p => by
      have := List.length_filter_le p (List.range (z.length + 1))
      rw [List.length_range] at this
      omega
    refine ⟨.ref D1, .ref T1, .tuple (((List.range (z.length + 1)).filter fun k => decide (0 < th (Ws ws) (TL.tl z) k)).map fun k => PyData.int (k : Nat)), rfl, .tup (Same.tup (Same.new se1 nT1) hD1) (dp_nums _), .tup (SqT.of upd_same) (dp_nums _), okD_nums (hlr _), fun H11 s11 => ⟨true, rfl, iteF ?_⟩⟩
    have sp11 : Same HP H11 := sb1.trans ((Same.new se1 nT1).trans s11)
    -- the common boundaries
    refine ⟨_, rfl, _, rfl, c, ws, z, rfl, Same.tup (s3p.trans sp11) hT3, hg, hz, hzc, fun D2 HC1 sc1 hD2 => ?_⟩
    have hPL2 := sc1 _ _ (sp11 _ _ hPL)
    have hBo2 := sc1 _ _ (sp11 _ _ hBoP)
    refine ⟨_, rfl, PL, rfl, ⟨_, SqL.of hPL2⟩, fun E2 nE2 => ?_⟩
    refine lc_list (xs := (List.range (z.length + 1)).map iN) (fun i H' => Same HC1 H' ∧ H' E2 = some (.lst (((List.range i).filter fun k => decide (th (Ws ws) (TL.tl z) k = cnt (Ws ws) (TL.tl z))).map iN)))
      ⟨Same.new (Same.refl HC1) nE2, by rw [upd_same]; rfl⟩ (fun i H' _ hP => SqL.of (hP.1 _ _ hPL2)) (fun i x H' hx hP => ?_) (fun H' hP => ?_)
    · obtain ⟨sm, hD⟩ := hP
      have hil : i < z.length + 1 := by
        have := (List.getElem?_eq_some_iff.mp hx).1
        rw [List.length_map, List.length_range] at this
        exact this
      rw [List.getElem?_map, List.getElem?_range hil] at hx
      cases Option.some.inj hx
      have hlt : (((List.range i).filter fun k => decide (th (Ws ws) (TL.tl z) k = cnt (Ws ws) (TL.tl z))).map iN).length < sizeLine := by
        have := List.length_filter_le (fun k => decide (th (Ws ws) (TL.tl z) k = cnt (Ws ws) (TL.tl z))) (List.range i)
        rw [List.length_range] at this
        rw [List.length_map, sizeLine_eq]
        omega
      refine ⟨rfl, _, rfl, _, rfl, Bo, _, _, iN (th (Ws ws) (TL.tl z) i), rfl, rfl, SqL.of (sm _ _ hBo2), at_of (j := i) rfl (by rw [List.getElem?_map, List.getElem?_map, List.getElem?_range hil]; rfl), _, rfl, rfl, _, rfl, ?_⟩
      by_cases h0 : th (Ws ws) (TL.tl z) i = cnt (Ws ws) (TL.tl z)
      · rw [decide_eq_true (show iN (th (Ws ws) (TL.tl z) i) = iN (cnt (Ws ws) (TL.tl z)) from by rw [h0])]
        refine iteT ⟨_, rfl, _, hD, hlt, Same.put' sm nE2, ?_⟩
        rw [upd_same, filter_range, decide_eq_true h0, if_pos rfl, List.map_append]
        rfl
      · rw [decide_eq_false (show ¬ iN (th (Ws ws) (TL.tl z) i) = iN (cnt (Ws ws) (TL.tl z)) from fun e => h0 (by injection e with e; omega))]
        refine iteF ⟨sm, ?_⟩
        rw [filter_range, decide_eq_false h0, if_neg Bool.false_ne_true, List.append_nil]
        exact hD
    obtain ⟨se2, hE2⟩ := hP
    rw [List.length_map, List.length_range] at hE2
    refine ⟨E2, _, rfl, .inl ⟨SqL.of hE2, fun T2 nT2 => ?_⟩⟩
    refine ⟨.ref D2, .ref T2, .tuple (((List.range (z.length + 1)).filter fun k => decide (th (Ws ws) (TL.tl z) k = cnt (Ws ws) (TL.tl z))).map fun k => PyData.int (k : Nat)), rfl, .tup (Same.tup (Same.new se2 nT2) hD2) (dp_nums _), .tup (SqT.of upd_same) (dp_nums _), okD_nums (hlr _), fun H12 s12 => ⟨true, rfl, iteF ?_⟩⟩
    have sp12 : Same HP H12 := sp11.trans (sc1.trans ((Same.new se2 nT2).trans s12))
    -- boundaries from the other end
    refine ⟨_, rfl, _, rfl, z, rfl, by rw [sizeLine_eq]; omega, t, _, revS z, rfl, Same.tup (s5b.trans (spl.trans sp12)) ht5, hgr, hzr, fun D3 HD1 sd1 hD3 => ?_⟩
    have hPL3 := sd1 _ _ (sp12 _ _ hPL)
    have hBo3 := sd1 _ _ (sp12 _ _ hBoP)
    refine ⟨_, rfl, PL, rfl, ⟨_, SqL.of hPL3⟩, fun E3 nE3 => ?_⟩
    refine lc_list (xs := (List.range (z.length + 1)).map iN) (fun i H' => Same HD1 H' ∧ H' E3 = some (.lst ((((List.range i).filter fun k => decide (0 < th (Ws ws) (TL.tl z) k)).map (fun k => z.length - k)).map iN)))
      ⟨Same.new (Same.refl HD1) nE3, by rw [upd_same]; rfl⟩ (fun i H' _ hP => SqL.of (hP.1 _ _ hPL3)) (fun i x H' hx hP => ?_) (fun H' hP => ?_)
    · obtain ⟨sm, hD⟩ := hP
      have hil : i < z.length + 1 := by
        have := (List.getElem?_eq_some_iff.mp hx).1
        rw [List.length_map, List.length_range] at this
        exact this
      rw [List.getElem?_map, List.getElem?_range hil] at hx
      cases Option.some.inj hx
      have hlt : ((((List.range i).filter fun k => decide (0 < th (Ws ws) (TL.tl z) k)).map (fun k => z.length - k)).map iN).length < sizeLine := by
        have := List.length_filter_le (fun k => decide (0 < th (Ws ws) (TL.tl z) k)) (List.range i)
        rw [List.length_range] at this
        rw [List.length_map, List.length_map, sizeLine_eq]
        omega
      refine ⟨rfl, _, rfl, _, rfl, Bo, _, _, iN (th (Ws ws) (TL.tl z) i), rfl, rfl, SqL.of (sm _ _ hBo3), at_of (j := i) rfl (by rw [List.getElem?_map, List.getElem?_map, List.getElem?_range hil]; rfl), _, 0, rfl, rfl, _, rfl, ?_⟩
      by_cases h0 : 0 < th (Ws ws) (TL.tl z) i
      · rw [decide_eq_true (show (0 : Int) < ((th (Ws ws) (TL.tl z) i : Nat) : Int) from by omega)]
        refine iteT ⟨_, rfl, z, rfl, by rw [sizeLine_eq]; omega, _, rfl, _, _, rfl, rfl, _, hD, hlt, Same.put' sm nE3, ?_⟩
        rw [upd_same, filter_range, decide_eq_true h0, if_pos rfl, List.map_append, List.map_append]
        show some (HO.lst (_ ++ [V.int ((z.length : Int) - (i : Nat))])) = some (HO.lst (_ ++ [V.int ((z.length - i : Nat) : Int)]))
        rw [show ((z.length : Int) - (i : Nat)) = ((z.length - i : Nat) : Int) by omega]
      · rw [decide_eq_false (show ¬ (0 : Int) < ((th (Ws ws) (TL.tl z) i : Nat) : Int) from by omega)]
        refine iteF ⟨sm, ?_⟩
        rw [filter_range, decide_eq_false h0, if_neg Bool.false_ne_true, List.append_nil]
        exact hD
    obtain ⟨se3, hE3⟩ := hP
    rw [List.length_map, List.length_range] at hE3
    refine ⟨E3, _, rfl, .inl ⟨SqL.of hE3, fun T3 nT3 => ?_⟩⟩
    refine ⟨T3, _, rfl, SqT.of upd_same, fun T4 nT4 => ?_⟩
    rw [len_revS, ws_rev, tl_revS, ez, rev_bounds hg.ne] at hD3
    have sd4 := Same.new (o := .tup ((((List.range (z.length + 1)).filter fun k => decide (0 < th (Ws ws) (TL.tl z) k)).map (fun k => z.length - k)).map iN).reverse) (Same.new (o := .tup ((((List.range (z.length + 1)).filter fun k => decide (0 < th (Ws ws) (TL.tl z) k)).map (fun k => z.length - k)).map iN)) se3 nT3) nT4
    refine ⟨.tuple (((((List.range (z.length + 1)).filter fun k => decide (0 < th (Ws ws) (TL.tl z) k)).map (fun k => z.length - k)).reverse).map fun k => PyData.int (k : Nat)), .tuple (((((List.range (z.length + 1)).filter fun k => decide (0 < th (Ws ws) (TL.tl z) k)).map (fun k => z.length - k)).reverse).map fun k => PyData.int (k : Nat)), .tup (Same.tup sd4 (by rw [ez]; exact hD3)) (dp_nums _), .tup (xs := ((((List.range (z.length + 1)).filter fun k => decide (0 < th (Ws ws) (TL.tl z) k)).map (fun k => z.length - k)).reverse).map iN) (SqT.of (by rw [List.map_reverse]; exact upd_same)) (dp_nums _), shaped_nums _, shaped_nums _, _, rfl, ?_⟩
    rw [SeqAt.eqv_refl _ (SeqAt.canLay_of_shaped (shaped_nums _))]
    refine iteF ?_
    have sp13 := sp12.trans (sd1.trans sd4)
    generalize hHZ : (upd (upd _ T3 _) T4 _ : Hp) = HZ at sp13
    have stz : Strm l HZ p := by
      obtain ⟨ne, ns, x, k, g1, g2, g3, g4⟩ := st3
      exact ⟨ne, ns, x, k, sp13 _ _ (s3p _ _ g1), g2, sp13 _ _ (s3p _ _ g3), g4⟩
    have hTz : SqT K HZ c (ws.map V.str) := Same.tup (s3p.trans sp13) hT3
    -- three indexes
    refine ⟨3, rfl, by decide, by decide, ?_⟩
    refine for_range (lo := 0) (n := (3 : Int).toNat) (fun i σ H' => ∃ (y10 y11 y12 : Option V), σ = [some (.ref a), some (.ref p), some (.ref c), some (.str z), some (.ref C), some (iN (cnt (Ws ws) (TL.tl z))), some (.ref t), some (.ref B), some (.ref Bo), some (.ref PL), y10, y11, y12, none, none] ∧ Keep p HZ H' ∧ Strm l H' p)
      ⟨none, none, none, rfl, Keep.refl _, stz⟩ (fun i σ H' hi hP => ?_) (fun σ H' hP => ?_)
    · obtain ⟨y10, y11, y12, rfl, kp, st'⟩ := hP
      have hTi : SqT K H' c (ws.map V.str) := (Lk.of_keep kp stz st').tup hTz
      obtain ⟨m, hm, hm0, hm1, hm2⟩ : ∃ m : Nat, (if (1000 : Int) < ((cnt (Ws ws) (TL.tl z) : Nat) : Int) then (1000 : Int) else ((cnt (Ws ws) (TL.tl z) : Nat) : Int)) = (m : Int) ∧ 0 < m ∧ m ≤ 1000 ∧ m ≤ cnt (Ws ws) (TL.tl z) := by
        by_cases hb : (1000 : Int) < ((cnt (Ws ws) (TL.tl z) : Nat) : Int)
        · exact ⟨1000, by rw [if_pos hb]; rfl, by decide, Nat.le_refl _, by omega⟩
        · exact ⟨cnt (Ws ws) (TL.tl z), by rw [if_neg hb], hzc, by omega, Nat.le_refl _⟩
      refine ⟨_, rfl, _, rfl, _, 1000, rfl, ?_⟩
      rw [hm]
      refine ⟨l, p, (m : Int), rfl, st', by omega, by omega, fun d Ha d0 d1 kpa sta => ?_⟩
      obtain ⟨j, rfl⟩ : ∃ j : Nat, d = j := ⟨d.toNat, by omega⟩
      have hj : j < cnt (Ws ws) (TL.tl z) := by omega
      have hTa := (Lk.of_keep kpa st' sta).tup hTi
      obtain ⟨n1, n2, n3⟩ := nth_ok hg.ne 24 (TL.tl z) j (by omega) hj
      have n4 := nth_len (Ws ws) 24 (TL.tl z) j
      refine ⟨_, rfl, _, rfl, _, rfl, c, ws, z, j, rfl, hTa, hg, hz, hj, fun pp Hb sb hpp => ?_⟩
      have hlt := fun k (hk : k + 1 = k + 1) => nth_lt hg.ne 24 (TL.tl z) j (j + 1) (by omega) (Nat.lt_succ_self _)
      generalize hps : nth (Ws ws) 24 (TL.tl z) j = ps at n1 n2 n3 n4 hpp hlt
      have nums : Nums ws ps := fun k hk => by
        have := n1 k hk
        rw [List.length_map] at this
        exact this
      have ejz : (⟨(join (Ws ws) ps).toArray⟩ : Str) = z := TL.ext_tl n2
      refine ⟨_, rfl, _, rfl, c, pp, ws, ps, rfl, Same.tup sb hTa, hg, hpp, by omega, nums, by rw [ejz]; exact hz3, by rw [n2]; omega, fun Hc sc => ?_⟩
      refine ⟨_, rfl, _, rfl, c, pp, ws, ps, rfl, Same.tup (sb.trans sc) hTa, hg, Same.tup sc hpp, by omega, nums, by rw [n2]; omega, fun z' Hd sd ez' => ?_⟩
      obtain rfl : z' = z := TL.ext_tl (ez'.trans n2)
      rw [n2, n3]
      refine ⟨(by show 2 ≤ sizeLine; decide), fun R1 nR1 => ⟨_, rfl, _, rfl, (by show 2 ≤ sizeLine; decide), fun U1 nU1 => ?_⟩⟩
      refine ⟨.ref R1, .ref U1, .list [.int j, .str z'], rfl, .lst (SqL.of (Same.new (Same.refl _) nU1 _ _ upd_same)) (.cons (.int _) (.cons (.str _) .nil)), .lst (SqL.of upd_same) (.cons (.int _) (.cons (.str _) .nil)), ⟨by show 2 ≤ 100000; decide, fun d hd => ?_⟩, fun He se => ⟨true, rfl, iteF ?_⟩⟩
      · simp only [List.mem_cons, List.not_mem_nil, or_false] at hd
        rcases hd with rfl | rfl <;> trivial
      have sbe : Same Hb He := sc.trans (sd.trans ((Same.new (Same.new (Same.refl Hd) nR1) nU1).trans se))
      have kpe : Keep p HZ He := kp.trans (kpa.trans (Keep.of_same (sb.trans sbe)))
      have ste : Strm l He p := sta.same (sb.trans sbe)
      refine ⟨_, rfl, _, 1, rfl, rfl, _, rfl, _, _, rfl, rfl, _, rfl, ?_⟩
      by_cases hnx : j + 1 < cnt (Ws ws) (TL.tl z')
      · rw [decide_eq_true (show (j : Int) + 1 < ((cnt (Ws ws) (TL.tl z') : Nat) : Int) by omega)]
        refine iteT ⟨_, rfl, _, rfl, _, rfl, _, rfl, _, 1, rfl, rfl, c, ws, z', j + 1, rfl, Same.tup (sb.trans sbe) hTa, hg, hz, hnx, fun p2 Hf sf hp2 => ?_⟩
        refine ⟨pp, p2, ps.map Int.ofNat, (nth (Ws ws) 24 (TL.tl z') (j + 1)).map Int.ofNat, rfl, rfl, by rw [← iN_ints]; exact Same.tup (sbe.trans sf) hpp, by rw [← iN_ints]; exact hp2, _, rfl, ?_⟩
        rw [lex_ints, hlt 0 rfl hnx]
        exact iteF ⟨_, _, _, rfl, kpe.trans (Keep.of_same sf), ste.same sf⟩
      · rw [decide_eq_false (show ¬ (j : Int) + 1 < ((cnt (Ws ws) (TL.tl z') : Nat) : Int) by omega)]
        exact iteF (iteF ⟨_, _, _, rfl, kpe, ste⟩)
    -- a word more
    · obtain ⟨y10, y11, y12, rfl, kp, st'⟩ := hP
      have hTi : SqT K H' c (ws.map V.str) := (Lk.of_keep kp stz st').tup hTz
      refine ⟨_, rfl, l, p, 1, 5, 3, rfl, st', by decide, by decide, by decide, by decide, by decide, fun y Ha kpa sta hy3 hy1 hy5 => ?_⟩
      have hTa := (Lk.of_keep kpa st' sta).tup hTi
      refine ⟨_, rfl, _, rfl, c, _, rfl, .inr hTa, rfl, flat_strs ws, _, rfl, ?_⟩
      rw [if_neg Bool.false_ne_true, inV_str]
      by_cases hin : y ∈ ws
      · rw [decide_eq_true hin]
        exact iteT (q _)
      · rw [decide_eq_false hin]
        refine iteF ⟨_, rfl, c, _, rfl, .inr hTa, _, 5, rfl, rfl, _, rfl, ?_⟩
        rw [List.length_map]
        by_cases h5 : (5 : Int) < ws.length
        · rw [decide_eq_true h5]
          exact iteT (q _)
        · rw [decide_eq_false h5]
          refine iteF ⟨_, rfl, _, rfl, (by show 1 ≤ sizeLine; decide), fun u nu => ?_⟩
          refine ⟨c, u, _, _, rfl, rfl, Same.tup (Same.new (Same.refl Ha) nu) hTa, SqT.of upd_same, ?_, fun e Hb sb he => ?_⟩
          · rw [List.length_map, sizeLine_eq]
            show _ + 1 ≤ _
            omega
          have hg2 : GoodC (ws ++ [y]) := ⟨nodup_snoc.mpr ⟨nd, hin⟩, by rw [List.length_append]; show _ + 1 ≤ _; omega, fun x hx => by
            rcases List.mem_append.mp hx with hx | hx
            · exact hzw x hx
            · rw [List.mem_singleton.mp hx]
              exact ⟨hy3, by omega, hy5⟩⟩
          refine ⟨_, rfl, e, ws ++ [y], z, rfl, by rw [List.map_append]; exact he, hg2, hz, fun Hc sc => ?_⟩
          refine ⟨_, rfl, _, _, rfl, rfl, ?_⟩
          have hm := cnt_more hg.ne (v := TL.tl y) (fun e => by
            have := congrArg List.length e
            rw [← TL.len_tl, List.length_nil] at this
            omega) _ (TL.tl z) (Nat.le_refl _)
          have ew : Ws (ws ++ [y]) = Ws ws ++ [TL.tl y] := List.map_append
          show Q (V.bl (decide (((cnt (Ws ws) (TL.tl z) : Nat) : Int) ≤ ((cnt (Ws (ws ++ [y])) (TL.tl z) : Nat) : Int)))) Hc
          rw [ew, decide_eq_true (by omega)]
          exact q _
end
end Sy
namespace Sy
open PySem PySem.Spec PyProof.Rows L2
/-! ### what the top has left; the last theorem -/
set_option maxHeartbeats 0 in
theorem all_mk {l : PySem.W.OpenLaw} {w : World} {K : PySem.W.Frag} {h : Heap} {mg : Str → Option Value} {fa : Addr} (X : K.In h) (G : h.Ns mainGlobals mg) (hfa : mg "law" = some (.ref fa))
    {f0 : Addr} {od0 an0 : Option Addr} {sl0 : Array (Option Value)} {oc0 kV0 dc0 pm0 cd0 ct0 : Value}
    {f1 : Addr} {od1 an1 : Option Addr} {sl1 : Array (Option Value)} {oc1 kV1 dc1 pm1 cd1 ct1 : Value}
    {f2 : Addr} {od2 an2 : Option Addr} {sl2 : Array (Option Value)} {oc2 kV2 dc2 pm2 cd2 ct2 : Value}
    {f3 : Addr} {od3 an3 : Option Addr} {sl3 : Array (Option Value)} {oc3 kV3 dc3 pm3 cd3 ct3 : Value}
    {f4 : Addr} {od4 an4 : Option Addr} {sl4 : Array (Option Value)} {oc4 kV4 dc4 pm4 cd4 ct4 : Value}
    {f5 : Addr} {od5 an5 : Option Addr} {sl5 : Array (Option Value)} {oc5 kV5 dc5 pm5 cd5 ct5 : Value}
    {f6 : Addr} {od6 an6 : Option Addr} {sl6 : Array (Option Value)} {oc6 kV6 dc6 pm6 cd6 ct6 : Value}
    {f7 : Addr} {od7 an7 : Option Addr} {sl7 : Array (Option Value)} {oc7 kV7 dc7 pm7 cd7 ct7 : Value}
    {f8 : Addr} {od8 an8 : Option Addr} {sl8 : Array (Option Value)} {oc8 kV8 dc8 pm8 cd8 ct8 : Value}
    {f9 : Addr} {od9 an9 : Option Addr} {sl9 : Array (Option Value)} {oc9 kV9 dc9 pm9 cd9 ct9 : Value}
    {f10 : Addr} {od10 an10 : Option Addr} {sl10 : Array (Option Value)} {oc10 kV10 dc10 pm10 cd10 ct10 : Value}
    {f11 : Addr} {od11 an11 : Option Addr} {sl11 : Array (Option Value)} {oc11 kV11 dc11 pm11 cd11 ct11 : Value}
    {f12 : Addr} {od12 an12 : Option Addr} {sl12 : Array (Option Value)} {oc12 kV12 dc12 pm12 cd12 ct12 : Value}
    {f13 : Addr} {od13 an13 : Option Addr} {sl13 : Array (Option Value)} {oc13 kV13 dc13 pm13 cd13 ct13 : Value}
    {f14 : Addr} {od14 an14 : Option Addr} {sl14 : Array (Option Value)} {oc14 kV14 dc14 pm14 cd14 ct14 : Value}
    {f15 : Addr} {od15 an15 : Option Addr} {sl15 : Array (Option Value)} {oc15 kV15 dc15 pm15 cd15 ct15 : Value}
    {f16 : Addr} {od16 an16 : Option Addr} {sl16 : Array (Option Value)} {oc16 kV16 dc16 pm16 cd16 ct16 : Value}
    {f17 : Addr} {od17 an17 : Option Addr} {sl17 : Array (Option Value)} {oc17 kV17 dc17 pm17 cd17 ct17 : Value}
    {f18 : Addr} {od18 an18 : Option Addr} {sl18 : Array (Option Value)} {oc18 kV18 dc18 pm18 cd18 ct18 : Value}
    {f19 : Addr} {od19 an19 : Option Addr} {sl19 : Array (Option Value)} {oc19 kV19 dc19 pm19 cd19 ct19 : Value}
    {f20 : Addr} {od20 an20 : Option Addr} {sl20 : Array (Option Value)} {oc20 kV20 dc20 pm20 cd20 ct20 : Value}
    {f21 : Addr} {od21 an21 : Option Addr} {sl21 : Array (Option Value)} {oc21 kV21 dc21 pm21 cd21 ct21 : Value}
    {f22 : Addr} {od22 an22 : Option Addr} {sl22 : Array (Option Value)} {oc22 kV22 dc22 pm22 cd22 ct22 : Value}
    {f23 : Addr} {od23 an23 : Option Addr} {sl23 : Array (Option Value)} {oc23 kV23 dc23 pm23 cd23 ct23 : Value}
    {f24 : Addr} {od24 an24 : Option Addr} {sl24 : Array (Option Value)} {oc24 kV24 dc24 pm24 cd24 ct24 : Value}
    {f25 : Addr} {od25 an25 : Option Addr} {sl25 : Array (Option Value)} {oc25 kV25 dc25 pm25 cd25 ct25 : Value}
    {f26 : Addr} {od26 an26 : Option Addr} {sl26 : Array (Option Value)} {oc26 kV26 dc26 pm26 cd26 ct26 : Value}
    {f27 : Addr} {od27 an27 : Option Addr} {sl27 : Array (Option Value)} {oc27 kV27 dc27 pm27 cd27 ct27 : Value}
    {f28 : Addr} {od28 an28 : Option Addr} {sl28 : Array (Option Value)} {oc28 kV28 dc28 pm28 cd28 ct28 : Value}
    {f29 : Addr} {od29 an29 : Option Addr} {sl29 : Array (Option Value)} {oc29 kV29 dc29 pm29 cd29 ct29 : Value}
    {f30 : Addr} {od30 an30 : Option Addr} {sl30 : Array (Option Value)} {oc30 kV30 dc30 pm30 cd30 ct30 : Value}
    {f31 : Addr} {od31 an31 : Option Addr} {sl31 : Array (Option Value)} {oc31 kV31 dc31 pm31 cd31 ct31 : Value}
    {f32 : Addr} {od32 an32 : Option Addr} {sl32 : Array (Option Value)} {oc32 kV32 dc32 pm32 cd32 ct32 : Value}
    {t0 : Tok}
    {t1 : Tok}
    {t2 : Tok}
    {t3 : Tok}
    (a0 : PySem.W.nsIn K mainGlobals "has_letters" = some (some (.ref f0))) (l0 : K.lookup f0 = some ⟨oc0, od0, .func (PySem.W.fnOf "has_letters" "has_letters" (defArgs sHas) (defBody sHas) (defScope sHas) .none kV0 dc0 pm0 an0 cd0 ct0), sl0⟩) (c0 : PySem.W.codeIn K cd0 "has_letters" = true) (k0 : PySem.W.keepIn K (.ref f0) = true)
    (a1 : PySem.W.nsIn K mainGlobals "are_words" = some (some (.ref f1))) (l1 : K.lookup f1 = some ⟨oc1, od1, .func (PySem.W.fnOf "are_words" "are_words" (defArgs sWords) (defBody sWords) (defScope sWords) .none kV1 dc1 pm1 an1 cd1 ct1), sl1⟩) (c1 : PySem.W.codeIn K cd1 "are_words" = true) (k1 : PySem.W.keepIn K (.ref f1) = true)
    (a2 : PySem.W.nsIn K mainGlobals "is_code" = some (some (.ref f2))) (l2 : K.lookup f2 = some ⟨oc2, od2, .func (PySem.W.fnOf "is_code" "is_code" (defArgs sIsCode) (defBody sIsCode) (defScope sIsCode) .none kV2 dc2 pm2 an2 cd2 ct2), sl2⟩) (c2 : PySem.W.codeIn K cd2 "is_code" = true) (k2 : PySem.W.keepIn K (.ref f2) = true)
    (a3 : PySem.W.nsIn K mainGlobals "is_string" = some (some (.ref f3))) (l3 : K.lookup f3 = some ⟨oc3, od3, .func (PySem.W.fnOf "is_string" "is_string" (defArgs sIsString) (defBody sIsString) (defScope sIsString) .none kV3 dc3 pm3 an3 cd3 ct3), sl3⟩) (c3 : PySem.W.codeIn K cd3 "is_string" = true) (k3 : PySem.W.keepIn K (.ref f3) = true)
    (a4 : PySem.W.nsIn K mainGlobals "is_integer" = some (some (.ref f4))) (l4 : K.lookup f4 = some ⟨oc4, od4, .func (PySem.W.fnOf "is_integer" "is_integer" (defArgs sInteger) (defBody sInteger) (defScope sInteger) .none kV4 dc4 pm4 an4 cd4 ct4), sl4⟩) (c4 : PySem.W.codeIn K cd4 "is_integer" = true) (k4 : PySem.W.keepIn K (.ref f4) = true)
    (a5 : PySem.W.nsIn K mainGlobals "is_number" = some (some (.ref f5))) (l5 : K.lookup f5 = some ⟨oc5, od5, .func (PySem.W.fnOf "is_number" "is_number" (defArgs sNumber) (defBody sNumber) (defScope sNumber) .none kV5 dc5 pm5 an5 cd5 ct5), sl5⟩) (c5 : PySem.W.codeIn K cd5 "is_number" = true) (k5 : PySem.W.keepIn K (.ref f5) = true)
    (a6 : PySem.W.nsIn K mainGlobals "check_code" = some (some (.ref f6))) (l6 : K.lookup f6 = some ⟨oc6, od6, .func (PySem.W.fnOf "check_code" "check_code" (defArgs sChkC) (defBody sChkC) (defScope sChkC) .none kV6 dc6 pm6 an6 cd6 ct6), sl6⟩) (c6 : PySem.W.codeIn K cd6 "check_code" = true) (k6 : PySem.W.keepIn K (.ref f6) = true)
    (a7 : PySem.W.nsIn K mainGlobals "check_string" = some (some (.ref f7))) (l7 : K.lookup f7 = some ⟨oc7, od7, .func (PySem.W.fnOf "check_string" "check_string" (defArgs sChkS) (defBody sChkS) (defScope sChkS) .none kV7 dc7 pm7 an7 cd7 ct7), sl7⟩) (c7 : PySem.W.codeIn K cd7 "check_string" = true) (k7 : PySem.W.keepIn K (.ref f7) = true)
    (a8 : PySem.W.nsIn K mainGlobals "check_number" = some (some (.ref f8))) (l8 : K.lookup f8 = some ⟨oc8, od8, .func (PySem.W.fnOf "check_number" "check_number" (defArgs sChkN) (defBody sChkN) (defScope sChkN) .none kV8 dc8 pm8 an8 cd8 ct8), sl8⟩) (c8 : PySem.W.codeIn K cd8 "check_number" = true) (k8 : PySem.W.keepIn K (.ref f8) = true)
    (a9 : PySem.W.nsIn K mainGlobals "is_parse" = some (some (.ref f9))) (l9 : K.lookup f9 = some ⟨oc9, od9, .func (PySem.W.fnOf "is_parse" "is_parse" (defArgs sIsParse) (defBody sIsParse) (defScope sIsParse) .none kV9 dc9 pm9 an9 cd9 ct9), sl9⟩) (c9 : PySem.W.codeIn K cd9 "is_parse" = true) (k9 : PySem.W.keepIn K (.ref f9) = true)
    (a10 : PySem.W.nsIn K mainGlobals "joined" = some (some (.ref f10))) (l10 : K.lookup f10 = some ⟨oc10, od10, .func (PySem.W.fnOf "joined" "joined" (defArgs sJoined) (defBody sJoined) (defScope sJoined) .none kV10 dc10 pm10 an10 cd10 ct10), sl10⟩) (c10 : PySem.W.codeIn K cd10 "joined" = true) (k10 : PySem.W.keepIn K (.ref f10) = true)
    (a11 : PySem.W.nsIn K mainGlobals "string_of" = some (some (.ref f11))) (l11 : K.lookup f11 = some ⟨oc11, od11, .func (PySem.W.fnOf "string_of" "string_of" (defArgs sStringOf) (defBody sStringOf) (defScope sStringOf) .none kV11 dc11 pm11 an11 cd11 ct11), sl11⟩) (c11 : PySem.W.codeIn K cd11 "string_of" = true) (k11 : PySem.W.keepIn K (.ref f11) = true)
    (a12 : PySem.W.nsIn K mainGlobals "shares" = some (some (.ref f12))) (l12 : K.lookup f12 = some ⟨oc12, od12, .func (PySem.W.fnOf "shares" "shares" (defArgs sShares) (defBody sShares) (defScope sShares) .none kV12 dc12 pm12 an12 cd12 ct12), sl12⟩) (c12 : PySem.W.codeIn K cd12 "shares" = true) (k12 : PySem.W.keepIn K (.ref f12) = true)
    (a13 : PySem.W.nsIn K mainGlobals "counts_behind" = some (some (.ref f13))) (l13 : K.lookup f13 = some ⟨oc13, od13, .func (PySem.W.fnOf "counts_behind" "counts_behind" (defArgs sBehind) (defBody sBehind) (defScope sBehind) .none kV13 dc13 pm13 an13 cd13 ct13), sl13⟩) (c13 : PySem.W.codeIn K cd13 "counts_behind" = true) (k13 : PySem.W.keepIn K (.ref f13) = true)
    (a14 : PySem.W.nsIn K mainGlobals "counts_ahead" = some (some (.ref f14))) (l14 : K.lookup f14 = some ⟨oc14, od14, .func (PySem.W.fnOf "counts_ahead" "counts_ahead" (defArgs sAhead) (defBody sAhead) (defScope sAhead) .none kV14 dc14 pm14 an14 cd14 ct14), sl14⟩) (c14 : PySem.W.codeIn K cd14 "counts_ahead" = true) (k14 : PySem.W.keepIn K (.ref f14) = true)
    (a15 : PySem.W.nsIn K mainGlobals "counts_through" = some (some (.ref f15))) (l15 : K.lookup f15 = some ⟨oc15, od15, .func (PySem.W.fnOf "counts_through" "counts_through" (defArgs sThrough) (defBody sThrough) (defScope sThrough) .none kV15 dc15 pm15 an15 cd15 ct15), sl15⟩) (c15 : PySem.W.codeIn K cd15 "counts_through" = true) (k15 : PySem.W.keepIn K (.ref f15) = true)
    (a16 : PySem.W.nsIn K mainGlobals "count_parses" = some (some (.ref f16))) (l16 : K.lookup f16 = some ⟨oc16, od16, .func (PySem.W.fnOf "count_parses" "count_parses" (defArgs sCount) (defBody sCount) (defScope sCount) .none kV16 dc16 pm16 an16 cd16 ct16), sl16⟩) (c16 : PySem.W.codeIn K cd16 "count_parses" = true) (k16 : PySem.W.keepIn K (.ref f16) = true)
    (a17 : PySem.W.nsIn K mainGlobals "parse_at" = some (some (.ref f17))) (l17 : K.lookup f17 = some ⟨oc17, od17, .func (PySem.W.fnOf "parse_at" "parse_at" (defArgs sParseAt) (defBody sParseAt) (defScope sParseAt) .none kV17 dc17 pm17 an17 cd17 ct17), sl17⟩) (c17 : PySem.W.codeIn K cd17 "parse_at" = true) (k17 : PySem.W.keepIn K (.ref f17) = true)
    (a18 : PySem.W.nsIn K mainGlobals "nth_parse" = some (some (.ref f18))) (l18 : K.lookup f18 = some ⟨oc18, od18, .func (PySem.W.fnOf "nth_parse" "nth_parse" (defArgs sNth) (defBody sNth) (defScope sNth) .none kV18 dc18 pm18 an18 cd18 ct18), sl18⟩) (c18 : PySem.W.codeIn K cd18 "nth_parse" = true) (k18 : PySem.W.keepIn K (.ref f18) = true)
    (a19 : PySem.W.nsIn K mainGlobals "index_of_parse" = some (some (.ref f19))) (l19 : K.lookup f19 = some ⟨oc19, od19, .func (PySem.W.fnOf "index_of_parse" "index_of_parse" (defArgs sIndex) (defBody sIndex) (defScope sIndex) .none kV19 dc19 pm19 an19 cd19 ct19), sl19⟩) (c19 : PySem.W.codeIn K cd19 "index_of_parse" = true) (k19 : PySem.W.keepIn K (.ref f19) = true)
    (a20 : PySem.W.nsIn K mainGlobals "boundaries" = some (some (.ref f20))) (l20 : K.lookup f20 = some ⟨oc20, od20, .func (PySem.W.fnOf "boundaries" "boundaries" (defArgs sBounds) (defBody sBounds) (defScope sBounds) .none kV20 dc20 pm20 an20 cd20 ct20), sl20⟩) (c20 : PySem.W.codeIn K cd20 "boundaries" = true) (k20 : PySem.W.keepIn K (.ref f20) = true)
    (a21 : PySem.W.nsIn K mainGlobals "common_boundaries" = some (some (.ref f21))) (l21 : K.lookup f21 = some ⟨oc21, od21, .func (PySem.W.fnOf "common_boundaries" "common_boundaries" (defArgs sCommon) (defBody sCommon) (defScope sCommon) .none kV21 dc21 pm21 an21 cd21 ct21), sl21⟩) (c21 : PySem.W.codeIn K cd21 "common_boundaries" = true) (k21 : PySem.W.keepIn K (.ref f21) = true)
    (a22 : PySem.W.nsIn K mainGlobals "backwards" = some (some (.ref f22))) (l22 : K.lookup f22 = some ⟨oc22, od22, .func (PySem.W.fnOf "backwards" "backwards" (defArgs sBack) (defBody sBack) (defScope sBack) .none kV22 dc22 pm22 an22 cd22 ct22), sl22⟩) (c22 : PySem.W.codeIn K cd22 "backwards" = true) (k22 : PySem.W.keepIn K (.ref f22) = true)
    (a23 : PySem.W.nsIn K mainGlobals "_law_stream" = some (some (.ref f23))) (l23 : K.lookup f23 = some ⟨oc23, od23, .func (PySem.W.fnOf "_law_stream" "_law_stream" (defArgs sStream) (defBody sStream) (defScope sStream) .none kV23 dc23 pm23 an23 cd23 ct23), sl23⟩) (c23 : PySem.W.codeIn K cd23 "_law_stream" = true) (k23 : PySem.W.keepIn K (.ref f23) = true)
    (a24 : PySem.W.nsIn K mainGlobals "_law_next" = some (some (.ref f24))) (l24 : K.lookup f24 = some ⟨oc24, od24, .func (PySem.W.fnOf "_law_next" "_law_next" (defArgs sNext) (defBody sNext) (defScope sNext) .none kV24 dc24 pm24 an24 cd24 ct24), sl24⟩) (c24 : PySem.W.codeIn K cd24 "_law_next" = true) (k24 : PySem.W.keepIn K (.ref f24) = true)
    (a25 : PySem.W.nsIn K mainGlobals "_law_is_integer" = some (some (.ref f25))) (l25 : K.lookup f25 = some ⟨oc25, od25, .func (PySem.W.fnOf "_law_is_integer" "_law_is_integer" (defArgs sIsInt) (defBody sIsInt) (defScope sIsInt) .none kV25 dc25 pm25 an25 cd25 ct25), sl25⟩) (c25 : PySem.W.codeIn K cd25 "_law_is_integer" = true) (k25 : PySem.W.keepIn K (.ref f25) = true)
    (a26 : PySem.W.nsIn K mainGlobals "_law_equal" = some (some (.ref f26))) (l26 : K.lookup f26 = some ⟨oc26, od26, .func (PySem.W.fnOf "_law_equal" "_law_equal" (defArgs sEqual) (defBody sEqual) (defScope sEqual) .none kV26 dc26 pm26 an26 cd26 ct26), sl26⟩) (c26 : PySem.W.codeIn K cd26 "_law_equal" = true) (k26 : PySem.W.keepIn K (.ref f26) = true)
    (a27 : PySem.W.nsIn K mainGlobals "_law_pick" = some (some (.ref f27))) (l27 : K.lookup f27 = some ⟨oc27, od27, .func (PySem.W.fnOf "_law_pick" "_law_pick" (defArgs sPick) (defBody sPick) (defScope sPick) .none kV27 dc27 pm27 an27 cd27 ct27), sl27⟩) (c27 : PySem.W.codeIn K cd27 "_law_pick" = true) (k27 : PySem.W.keepIn K (.ref f27) = true)
    (a28 : PySem.W.nsIn K mainGlobals "_law_string" = some (some (.ref f28))) (l28 : K.lookup f28 = some ⟨oc28, od28, .func (PySem.W.fnOf "_law_string" "_law_string" (defArgs sString) (defBody sString) (defScope sString) .none kV28 dc28 pm28 an28 cd28 ct28), sl28⟩) (c28 : PySem.W.codeIn K cd28 "_law_string" = true) (k28 : PySem.W.keepIn K (.ref f28) = true)
    (a29 : PySem.W.nsIn K mainGlobals "_law_code" = some (some (.ref f29))) (l29 : K.lookup f29 = some ⟨oc29, od29, .func (PySem.W.fnOf "_law_code" "_law_code" (defArgs sCode) (defBody sCode) (defScope sCode) .none kV29 dc29 pm29 an29 cd29 ct29), sl29⟩) (c29 : PySem.W.codeIn K cd29 "_law_code" = true) (k29 : PySem.W.keepIn K (.ref f29) = true)
    (a30 : PySem.W.nsIn K mainGlobals "_law_message" = some (some (.ref f30))) (l30 : K.lookup f30 = some ⟨oc30, od30, .func (PySem.W.fnOf "_law_message" "_law_message" (defArgs sMsg) (defBody sMsg) (defScope sMsg) .none kV30 dc30 pm30 an30 cd30 ct30), sl30⟩) (c30 : PySem.W.codeIn K cd30 "_law_message" = true) (k30 : PySem.W.keepIn K (.ref f30) = true)
    (a31 : PySem.W.nsIn K mainGlobals "_law_counts" = some (some (.ref f31))) (l31 : K.lookup f31 = some ⟨oc31, od31, .func (PySem.W.fnOf "_law_counts" "_law_counts" (defArgs sCounts) (defBody sCounts) (defScope sCounts) .none kV31 dc31 pm31 an31 cd31 ct31), sl31⟩) (c31 : PySem.W.codeIn K cd31 "_law_counts" = true) (k31 : PySem.W.keepIn K (.ref f31) = true)
    (a32 : PySem.W.nsIn K mainGlobals "law" = some (some (.ref f32))) (l32 : K.lookup f32 = some ⟨oc32, od32, .func (PySem.W.fnOf "law" "law" (defArgs sLaw) (defBody sLaw) (defScope sLaw) .none kV32 dc32 pm32 an32 cd32 ct32), sl32⟩) (c32 : PySem.W.codeIn K cd32 "law" = true) (k32 : PySem.W.keepIn K (.ref f32) = true)
    (yy0 : PySem.W.nsIn K mainGlobals "LETTERS" = some (some (.str "abc" t0)))
    (yy1 : PySem.W.nsIn K mainGlobals "MOST_WORDS" = some (some (.int 6 t1)))
    (yy2 : PySem.W.nsIn K mainGlobals "MOST_WORD_LETTERS" = some (some (.int 5 t2)))
    (yy3 : PySem.W.nsIn K mainGlobals "MOST_STRING_LETTERS" = some (some (.int 24 t3)))
    (z_isinstance : PySem.W.nsIn K mainGlobals "isinstance" = some none)
    (z_str : PySem.W.nsIn K mainGlobals "str" = some none)
    (z_len : PySem.W.nsIn K mainGlobals "len" = some none)
    (z_all : PySem.W.nsIn K mainGlobals "all" = some none)
    (z_tuple : PySem.W.nsIn K mainGlobals "tuple" = some none)
    (z_set : PySem.W.nsIn K mainGlobals "set" = some none)
    (z_list : PySem.W.nsIn K mainGlobals "list" = some none)
    (z_abs : PySem.W.nsIn K mainGlobals "abs" = some none)
    (z_int : PySem.W.nsIn K mainGlobals "int" = some none)
    (z_bool : PySem.W.nsIn K mainGlobals "bool" = some none)
    (z_range : PySem.W.nsIn K mainGlobals "range" = some none)
    (z_sum : PySem.W.nsIn K mainGlobals "sum" = some none)
    (z_reversed : PySem.W.nsIn K mainGlobals "reversed" = some none)
    (z_zip : PySem.W.nsIn K mainGlobals "zip" = some none)
    (z_enumerate : PySem.W.nsIn K mainGlobals "enumerate" = some none)
    (z_min : PySem.W.nsIn K mainGlobals "min" = some none) :
    ∃ fd : FuncData, (∀ (s : Shared) (v : Value), BindsTo s fd ⟨[v], []⟩ [("script", v)]) ∧ ∀ base : Heap, K.In base → base.Ns mainGlobals mg → FnOk l.prog w K mg base CX0 7 fa fd ["script"] (spLaw K) := by
  have e := hfa.symm.trans (PySem.W.mg_of X G a32)
  cases e
  have F0 := fun_mk (st := sHas) l0 c0 k0
  have b0 := F0.binds (ps := ["value", "least", "most"]) fun _ _ _ _ _ _ us hl => match us, hl with | [_, _, _], _ => rfl
  have m0 := PySem.W.mg_of X G a0
  have F1 := fun_mk (st := sWords) l1 c1 k1
  have b1 := F1.binds (ps := ["value", "many", "letters"]) fun _ _ _ _ _ _ us hl => match us, hl with | [_, _, _], _ => rfl
  have m1 := PySem.W.mg_of X G a1
  have F2 := fun_mk (st := sIsCode) l2 c2 k2
  have b2 := F2.binds (ps := ["value"]) fun _ _ _ _ _ _ us hl => match us, hl with | [_], _ => rfl
  have m2 := PySem.W.mg_of X G a2
  have F3 := fun_mk (st := sIsString) l3 c3 k3
  have b3 := F3.binds (ps := ["value"]) fun _ _ _ _ _ _ us hl => match us, hl with | [_], _ => rfl
  have m3 := PySem.W.mg_of X G a3
  have F4 := fun_mk (st := sInteger) l4 c4 k4
  have b4 := F4.binds (ps := ["value"]) fun _ _ _ _ _ _ us hl => match us, hl with | [_], _ => rfl
  have m4 := PySem.W.mg_of X G a4
  have F5 := fun_mk (st := sNumber) l5 c5 k5
  have b5 := F5.binds (ps := ["value", "least", "most"]) fun _ _ _ _ _ _ us hl => match us, hl with | [_, _, _], _ => rfl
  have m5 := PySem.W.mg_of X G a5
  have F6 := fun_mk (st := sChkC) l6 c6 k6
  have b6 := F6.binds (ps := ["value", "name"]) fun _ _ _ _ _ _ us hl => match us, hl with | [_, _], _ => rfl
  have m6 := PySem.W.mg_of X G a6
  have F7 := fun_mk (st := sChkS) l7 c7 k7
  have b7 := F7.binds (ps := ["value", "name"]) fun _ _ _ _ _ _ us hl => match us, hl with | [_, _], _ => rfl
  have m7 := PySem.W.mg_of X G a7
  have F8 := fun_mk (st := sChkN) l8 c8 k8
  have b8 := F8.binds (ps := ["value", "least", "most", "name"]) fun _ _ _ _ _ _ us hl => match us, hl with | [_, _, _, _], _ => rfl
  have m8 := PySem.W.mg_of X G a8
  have F9 := fun_mk (st := sIsParse) l9 c9 k9
  have b9 := F9.binds (ps := ["code", "value"]) fun _ _ _ _ _ _ us hl => match us, hl with | [_, _], _ => rfl
  have m9 := PySem.W.mg_of X G a9
  have F10 := fun_mk (st := sJoined) l10 c10 k10
  have b10 := F10.binds (ps := ["code", "parse"]) fun _ _ _ _ _ _ us hl => match us, hl with | [_, _], _ => rfl
  have m10 := PySem.W.mg_of X G a10
  have F11 := fun_mk (st := sStringOf) l11 c11 k11
  have b11 := F11.binds (ps := ["code", "parse"]) fun _ _ _ _ _ _ us hl => match us, hl with | [_, _], _ => rfl
  have m11 := PySem.W.mg_of X G a11
  have F12 := fun_mk (st := sShares) l12 c12 k12
  have b12 := F12.binds (ps := ["code", "string", "place", "counts"]) fun _ _ _ _ _ _ us hl => match us, hl with | [_, _, _, _], _ => rfl
  have m12 := PySem.W.mg_of X G a12
  have F13 := fun_mk (st := sBehind) l13 c13 k13
  have b13 := F13.binds (ps := ["code", "string"]) fun _ _ _ _ _ _ us hl => match us, hl with | [_, _], _ => rfl
  have m13 := PySem.W.mg_of X G a13
  have F14 := fun_mk (st := sAhead) l14 c14 k14
  have b14 := F14.binds (ps := ["code", "string"]) fun _ _ _ _ _ _ us hl => match us, hl with | [_, _], _ => rfl
  have m14 := PySem.W.mg_of X G a14
  have F15 := fun_mk (st := sThrough) l15 c15 k15
  have b15 := F15.binds (ps := ["code", "string"]) fun _ _ _ _ _ _ us hl => match us, hl with | [_, _], _ => rfl
  have m15 := PySem.W.mg_of X G a15
  have F16 := fun_mk (st := sCount) l16 c16 k16
  have b16 := F16.binds (ps := ["code", "string"]) fun _ _ _ _ _ _ us hl => match us, hl with | [_, _], _ => rfl
  have m16 := PySem.W.mg_of X G a16
  have F17 := fun_mk (st := sParseAt) l17 c17 k17
  have b17 := F17.binds (ps := ["code", "string", "counts", "index"]) fun _ _ _ _ _ _ us hl => match us, hl with | [_, _, _, _], _ => rfl
  have m17 := PySem.W.mg_of X G a17
  have F18 := fun_mk (st := sNth) l18 c18 k18
  have b18 := F18.binds (ps := ["code", "string", "index"]) fun _ _ _ _ _ _ us hl => match us, hl with | [_, _, _], _ => rfl
  have m18 := PySem.W.mg_of X G a18
  have F19 := fun_mk (st := sIndex) l19 c19 k19
  have b19 := F19.binds (ps := ["code", "parse"]) fun _ _ _ _ _ _ us hl => match us, hl with | [_, _], _ => rfl
  have m19 := PySem.W.mg_of X G a19
  have F20 := fun_mk (st := sBounds) l20 c20 k20
  have b20 := F20.binds (ps := ["code", "string"]) fun _ _ _ _ _ _ us hl => match us, hl with | [_, _], _ => rfl
  have m20 := PySem.W.mg_of X G a20
  have F21 := fun_mk (st := sCommon) l21 c21 k21
  have b21 := F21.binds (ps := ["code", "string"]) fun _ _ _ _ _ _ us hl => match us, hl with | [_, _], _ => rfl
  have m21 := PySem.W.mg_of X G a21
  have F22 := fun_mk (st := sBack) l22 c22 k22
  have b22 := F22.binds (ps := ["code"]) fun _ _ _ _ _ _ us hl => match us, hl with | [_], _ => rfl
  have m22 := PySem.W.mg_of X G a22
  have F23 := fun_mk (st := sStream) l23 c23 k23
  have b23 := F23.binds (ps := ["script"]) fun _ _ _ _ _ _ us hl => match us, hl with | [_], _ => rfl
  have m23 := PySem.W.mg_of X G a23
  have F24 := fun_mk (st := sNext) l24 c24 k24
  have b24 := F24.binds (ps := ["stream", "many"]) fun _ _ _ _ _ _ us hl => match us, hl with | [_, _], _ => rfl
  have m24 := PySem.W.mg_of X G a24
  have F25 := fun_mk (st := sIsInt) l25 c25 k25
  have b25 := F25.binds (ps := ["actual"]) fun _ _ _ _ _ _ us hl => match us, hl with | [_], _ => rfl
  have m25 := PySem.W.mg_of X G a25
  have F26 := fun_mk (st := sEqual) l26 c26 k26
  have b26 := F26.binds (ps := ["actual", "due"]) fun _ _ _ _ _ _ us hl => match us, hl with | [_, _], _ => rfl
  have m26 := PySem.W.mg_of X G a26
  have F27 := fun_mk (st := sPick) l27 c27 k27
  have b27 := F27.binds (ps := ["stream", "rows"]) fun _ _ _ _ _ _ us hl => match us, hl with | [_, _], _ => rfl
  have m27 := PySem.W.mg_of X G a27
  have F28 := fun_mk (st := sString) l28 c28 k28
  have b28 := F28.binds (ps := ["stream", "least", "most", "letters"]) fun _ _ _ _ _ _ us hl => match us, hl with | [_, _, _, _], _ => rfl
  have m28 := PySem.W.mg_of X G a28
  have F29 := fun_mk (st := sCode) l29 c29 k29
  have b29 := F29.binds (ps := ["stream", "many", "most"]) fun _ _ _ _ _ _ us hl => match us, hl with | [_, _, _], _ => rfl
  have m29 := PySem.W.mg_of X G a29
  have F30 := fun_mk (st := sMsg) l30 c30 k30
  have b30 := F30.binds (ps := ["stream", "code", "most"]) fun _ _ _ _ _ _ us hl => match us, hl with | [_, _, _], _ => rfl
  have m30 := PySem.W.mg_of X G a30
  have F31 := fun_mk (st := sCounts) l31 c31 k31
  have b31 := F31.binds (ps := ["code", "string"]) fun _ _ _ _ _ _ us hl => match us, hl with | [_, _], _ => rfl
  have m31 := PySem.W.mg_of X G a31
  have F32 := fun_mk (st := sLaw) l32 c32 k32
  have m32 := PySem.W.mg_of X G a32
  have mc0 := PySem.W.mg_of X G yy0
  have mc1 := PySem.W.mg_of X G yy1
  have mc2 := PySem.W.mg_of X G yy2
  have mc3 := PySem.W.mg_of X G yy3
  have n_isinstance := PySem.W.mg_none_of X G z_isinstance
  have n_str := PySem.W.mg_none_of X G z_str
  have n_len := PySem.W.mg_none_of X G z_len
  have n_all := PySem.W.mg_none_of X G z_all
  have n_tuple := PySem.W.mg_none_of X G z_tuple
  have n_set := PySem.W.mg_none_of X G z_set
  have n_list := PySem.W.mg_none_of X G z_list
  have n_abs := PySem.W.mg_none_of X G z_abs
  have n_int := PySem.W.mg_none_of X G z_int
  have n_bool := PySem.W.mg_none_of X G z_bool
  have n_range := PySem.W.mg_none_of X G z_range
  have n_sum := PySem.W.mg_none_of X G z_sum
  have n_reversed := PySem.W.mg_none_of X G z_reversed
  have n_zip := PySem.W.mg_none_of X G z_zip
  have n_enumerate := PySem.W.mg_none_of X G z_enumerate
  have n_min := PySem.W.mg_none_of X G z_min
  refine ⟨PySem.W.fnOf "law" "law" (defArgs sLaw) (defBody sLaw) (defScope sLaw) .none kV32 dc32 pm32 an32 cd32 ct32, fun s v => .of_eq rfl, fun base _ _ => ?_⟩
  have GH : FnOk l.prog w K mg base CX0 1 f0 _ ["value", "least", "most"] (spHas K) := ok_has F0 mc0 n_isinstance n_str n_len n_all
  have GWD := ok_words F1 F0 GH b0 m0 n_isinstance n_tuple n_len n_all n_set
  have GIC := ok_iscode F2 GWD k1 b1 m1 mc1 mc2
  have GIS := ok_isstring F3 F0 GH b0 m0 mc3
  have GNI : FnOk l.prog w K mg base CX0 1 f4 _ ["value"] spIsInt := ok_integer F4 n_isinstance n_int n_bool
  have GNU := ok_number F5 GNI k4 b4 m4
  have GCC := ok_chkc F6 GIC k2 b2 m2
  have GCS := ok_chks F7 GIS k3 b3 m3
  have GCN := ok_chkn F8 GNU k5 b5 m5
  have GIP := ok_isparse F9 GNU k5 b5 m5 n_isinstance n_tuple n_all n_len
  have GJO : FnOk l.prog w K mg base CX0 1 f10 _ ["code", "parse"] (spJoined K) := ok_joined F10
  have GSO := ok_stringof F11 GCC k6 b6 m6 GIP k9 b9 m9 GJO k10 b10 m10 mc3 n_len
  have GSH : FnOk l.prog w K mg base CX0 1 f12 _ ["code", "string", "place", "counts"] (spShares K) := ok_shares F12 n_len
  have GCB := ok_behind F13 GSH k12 b12 m12 n_len n_range n_reversed n_sum
  have GCA : FnOk l.prog w K mg base CX0 1 f14 _ ["code", "string"] (spAhead K) := ok_ahead F14 n_len n_range n_sum
  have GCT := ok_through F15 (GCA.mono (by decide)) k14 b14 m14 GCB k13 b13 m13 n_zip
  have GCP := ok_count F16 GCC k6 b6 m6 GCS k7 b7 m7 GCB k13 b13 m13
  have GPA := ok_parseat F17 GSH k12 b12 m12 n_len n_tuple
  have GNP := ok_nth F18 GCC k6 b6 m6 GCS k7 b7 m7 GCB k13 b13 m13 GCN k8 b8 m8 GPA k17 b17 m17
  have GIX := ok_index F19 GSO k11 b11 m11 GCB k13 b13 m13 GSH k12 b12 m12 n_len n_sum
  have GBO := ok_bounds F20 GCC k6 b6 m6 GCS k7 b7 m7 GCT k15 b15 m15 n_enumerate n_tuple
  have GCO := ok_common F21 GCC k6 b6 m6 GCS k7 b7 m7 GCT k15 b15 m15 n_enumerate n_tuple
  have GBA := ok_back F22 GCC k6 b6 m6 n_tuple
  have GS : FnOk l.prog w K mg base CX0 1 f23 _ ["script"] (spStream K) := ok_stream F23 n_list
  have GN : FnOk l.prog w K mg base CX0 1 f24 _ ["stream", "many"] spNext := ok_next F24 n_len n_abs n_int
  have GI : FnOk l.prog w K mg base CX0 1 f25 _ ["actual"] spIsInt := ok_isint F25 n_isinstance n_int n_bool
  have GE := ok_equal F26 b26 m26 F25 GI b25 m25 n_isinstance n_bool n_int n_str n_tuple n_list n_len n_all n_range 2
  have GP := ok_pick F27 F24 GN b24 m24 n_len
  have GPT := ok_pickT F27 F24 GN b24 m24 n_len
  have GT := ok_string F28 F24 GN b24 m24 n_range
  have GD := ok_code F29 F24 GN b24 m24 F27 GP b27 m27 F28 GT b28 m28 n_range n_tuple
  have GM := ok_msg F30 GN k24 b24 m24 GPT k27 b27 m27 n_len n_range n_int
  have GK : FnOk l.prog w K mg base CX0 1 f31 _ ["code", "string"] (spAhead K) := ok_counts F31 n_len n_range n_sum
  exact ok_law F32 ⟨⟨_, _, m23, k23, b23, GS⟩⟩ ⟨⟨_, _, m24, k24, b24, GN⟩⟩ ⟨⟨_, _, m28, k28, b28, GT⟩⟩ ⟨⟨_, _, m29, k29, b29, GD⟩⟩ ⟨⟨_, _, m26, k26, b26, GE⟩⟩ ⟨⟨_, _, m30, k30, b30, GM⟩⟩ ⟨⟨_, _, m31, k31, b31, GK⟩⟩ ⟨⟨_, _, m22, k22, b22, GBA⟩⟩ ⟨⟨_, _, m16, k16, b16, GCP⟩⟩ ⟨⟨_, _, m20, k20, b20, GBO⟩⟩ ⟨⟨_, _, m21, k21, b21, GCO⟩⟩ ⟨⟨_, _, m18, k18, b18, GNP⟩⟩ ⟨⟨_, _, m19, k19, b19, GIX⟩⟩ ⟨⟨_, _, m11, k11, b11, GSO⟩⟩ n_len n_list n_range n_tuple n_min
end Sy
open PySem PySem.W PyProof.Rows
set_option maxHeartbeats 0 in
theorem PySem.Challenge.cw_syncedwords_k03_parses_of_longer_strings_holds : PySem.Challenge.rw_syncedwords_k03_parses_of_longer_strings.Holds := by
  w_on; o_law; k_head; (case hw => w_witness2)
  k_fill
  refine L2.walk_of (l := PySem.Challenge.rw_syncedwords_k03_parses_of_longer_strings) (n := 63) (k := 7) (x := "script") (CX := fun _ => L2.CX0) (sp := fun w => Sy.spLaw _) rfl (by decide) rfl ⟨rfl, by decide, by decide⟩ (fun w h Y => PySem.W.kIn_of Y) ?F (fun _ _ a ns hl _ hS => ⟨a, ns, rfl, hS, hl, fun _ => rfl⟩) (fun _ _ _ _ _ h => h)
  case F =>
    intro w mg fa h KX G hmg
    refine' Sy.all_mk KX G hmg ?a0 ?l0 ?c0 ?k0 ?a1 ?l1 ?c1 ?k1 ?a2 ?l2 ?c2 ?k2 ?a3 ?l3 ?c3 ?k3 ?a4 ?l4 ?c4 ?k4 ?a5 ?l5 ?c5 ?k5 ?a6 ?l6 ?c6 ?k6 ?a7 ?l7 ?c7 ?k7 ?a8 ?l8 ?c8 ?k8 ?a9 ?l9 ?c9 ?k9 ?a10 ?l10 ?c10 ?k10 ?a11 ?l11 ?c11 ?k11 ?a12 ?l12 ?c12 ?k12 ?a13 ?l13 ?c13 ?k13 ?a14 ?l14 ?c14 ?k14 ?a15 ?l15 ?c15 ?k15 ?a16 ?l16 ?c16 ?k16 ?a17 ?l17 ?c17 ?k17 ?a18 ?l18 ?c18 ?k18 ?a19 ?l19 ?c19 ?k19 ?a20 ?l20 ?c20 ?k20 ?a21 ?l21 ?c21 ?k21 ?a22 ?l22 ?c22 ?k22 ?a23 ?l23 ?c23 ?k23 ?a24 ?l24 ?c24 ?k24 ?a25 ?l25 ?c25 ?k25 ?a26 ?l26 ?c26 ?k26 ?a27 ?l27 ?c27 ?k27 ?a28 ?l28 ?c28 ?k28 ?a29 ?l29 ?c29 ?k29 ?a30 ?l30 ?c30 ?k30 ?a31 ?l31 ?c31 ?k31 ?a32 ?l32 ?c32 ?k32 ?yy0 ?yy1 ?yy2 ?yy3 ?z_isinstance ?z_str ?z_len ?z_all ?z_tuple ?z_set ?z_list ?z_abs ?z_int ?z_bool ?z_range ?z_sum ?z_reversed ?z_zip ?z_enumerate ?z_min
    (case a0 => k_is)
    (case l0 => k_is)
    (case c0 => k_is)
    (case k0 => k_is)
    (case a1 => k_is)
    (case l1 => k_is)
    (case c1 => k_is)
    (case k1 => k_is)
    (case a2 => k_is)
    (case l2 => k_is)
    (case c2 => k_is)
    (case k2 => k_is)
    (case a3 => k_is)
    (case l3 => k_is)
    (case c3 => k_is)
    (case k3 => k_is)
    (case a4 => k_is)
    (case l4 => k_is)
    (case c4 => k_is)
    (case k4 => k_is)
    (case a5 => k_is)
    (case l5 => k_is)
    (case c5 => k_is)
    (case k5 => k_is)
    (case a6 => k_is)
    (case l6 => k_is)
    (case c6 => k_is)
    (case k6 => k_is)
    (case a7 => k_is)
    (case l7 => k_is)
    (case c7 => k_is)
    (case k7 => k_is)
    (case a8 => k_is)
    (case l8 => k_is)
    (case c8 => k_is)
    (case k8 => k_is)
    (case a9 => k_is)
    (case l9 => k_is)
    (case c9 => k_is)
    (case k9 => k_is)
    (case a10 => k_is)
    (case l10 => k_is)
    (case c10 => k_is)
    (case k10 => k_is)
    (case a11 => k_is)
    (case l11 => k_is)
    (case c11 => k_is)
    (case k11 => k_is)
    (case a12 => k_is)
    (case l12 => k_is)
    (case c12 => k_is)
    (case k12 => k_is)
    (case a13 => k_is)
    (case l13 => k_is)
    (case c13 => k_is)
    (case k13 => k_is)
    (case a14 => k_is)
    (case l14 => k_is)
    (case c14 => k_is)
    (case k14 => k_is)
    (case a15 => k_is)
    (case l15 => k_is)
    (case c15 => k_is)
    (case k15 => k_is)
    (case a16 => k_is)
    (case l16 => k_is)
    (case c16 => k_is)
    (case k16 => k_is)
    (case a17 => k_is)
    (case l17 => k_is)
    (case c17 => k_is)
    (case k17 => k_is)
    (case a18 => k_is)
    (case l18 => k_is)
    (case c18 => k_is)
    (case k18 => k_is)
    (case a19 => k_is)
    (case l19 => k_is)
    (case c19 => k_is)
    (case k19 => k_is)
    (case a20 => k_is)
    (case l20 => k_is)
    (case c20 => k_is)
    (case k20 => k_is)
    (case a21 => k_is)
    (case l21 => k_is)
    (case c21 => k_is)
    (case k21 => k_is)
    (case a22 => k_is)
    (case l22 => k_is)
    (case c22 => k_is)
    (case k22 => k_is)
    (case a23 => k_is)
    (case l23 => k_is)
    (case c23 => k_is)
    (case k23 => k_is)
    (case a24 => k_is)
    (case l24 => k_is)
    (case c24 => k_is)
    (case k24 => k_is)
    (case a25 => k_is)
    (case l25 => k_is)
    (case c25 => k_is)
    (case k25 => k_is)
    (case a26 => k_is)
    (case l26 => k_is)
    (case c26 => k_is)
    (case k26 => k_is)
    (case a27 => k_is)
    (case l27 => k_is)
    (case c27 => k_is)
    (case k27 => k_is)
    (case a28 => k_is)
    (case l28 => k_is)
    (case c28 => k_is)
    (case k28 => k_is)
    (case a29 => k_is)
    (case l29 => k_is)
    (case c29 => k_is)
    (case k29 => k_is)
    (case a30 => k_is)
    (case l30 => k_is)
    (case c30 => k_is)
    (case k30 => k_is)
    (case a31 => k_is)
    (case l31 => k_is)
    (case c31 => k_is)
    (case k31 => k_is)
    (case a32 => k_is)
    (case l32 => k_is)
    (case c32 => k_is)
    (case k32 => k_is)
    (case yy0 => k_is)
    (case yy1 => k_is)
    (case yy2 => k_is)
    (case yy3 => k_is)
    (case z_isinstance => k_is)
    (case z_str => k_is)
    (case z_len => k_is)
    (case z_all => k_is)
    (case z_tuple => k_is)
    (case z_set => k_is)
    (case z_list => k_is)
    (case z_abs => k_is)
    (case z_int => k_is)
    (case z_bool => k_is)
    (case z_range => k_is)
    (case z_sum => k_is)
    (case z_reversed => k_is)
    (case z_zip => k_is)
    (case z_enumerate => k_is)
    (case z_min => k_is)
