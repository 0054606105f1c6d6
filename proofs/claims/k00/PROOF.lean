import PyProof.Rows.All
import Wide.All
import OpenK.AllK
import Wide.FinOn
import HandS.ForMost
import HandS.ForExc
import HandS.Wide
import HandS.MakeKwOnly
import HandS.ExcValue
import HandS.ForSpec
import HandS.IsInst
import HandS.ExcIs
import HandS.EndBits
import HandS.SetFor
import HandS.Strs
import HandS.TupSets
import PyProof.ReprLen
import PyProof.Rows.RegStrFacts
import PySem.Challenge.RW_accountmaps_k00_errors_hold_values
set_option Elab.async false
set_option linter.all false
set_option maxRecDepth 100000
set_option maxHeartbeats 4000000
set_option exponentiation.threshold 5000
namespace K0
open PySem L2
/-! the places of the text -/
def top (i : Nat) : Stmt := PySem.Challenge.pw_accountmaps_k00_errors_hold_values.main.body.getD i (.Pass ⟨0, 0, 0, 0⟩)
abbrev sSack : Stmt := top 21
abbrev sPick : Stmt := top 22
abbrev sRanks : Stmt := top 23
abbrev sFirst : Stmt := top 24
abbrev sMade : Stmt := top 25
abbrev sKinds : Stmt := top 26
abbrev sRight : Stmt := top 27
abbrev sLaw : Stmt := top 28
/-! great powers -/
def CPowG (i j : Int) : Prop := 0 ≤ j ∧ j ≤ 64 ∧ i.natAbs < 2 ^ 4000
theorem op_powG {X : Cx} : OpR X (binaryOp .Pow) (rI CPowG fun i j => .int (i ^ j.toNat)) := opI fun i j _ _ _ _ _ hc q => by
  obtain ⟨h0, h1, h2⟩ := hc
  refine PyProof.Rows.pow_int h0 ?_ q
  have hb : Builtin.Int.intBits i ≤ 4000 := by
    unfold Builtin.Int.intBits
    split
    · exact Nat.zero_le _
    · have := PySem.Flt.log2_lt_of (by decide) h2
      omega
  have : ((Builtin.Int.intBits i : Nat) : Int) * j ≤ 4000 * 64 := by
    have a1 : ((Builtin.Int.intBits i : Nat) : Int) ≤ 4000 := by omega
    exact Int.mul_le_mul a1 h1 h0 (by omega)
  exact Int.le_trans this (by decide)
structure TxtN (K : PySem.W.Frag) (mg : Str → Option Value) : Prop where
  len : mg "len" = none
  max : mg "max" = none
  min : mg "min" = none
  abs : mg "abs" = none
  int : mg "int" = none
/-- a sack: three numbers in a list -/
def SackAt (H : Hp) (p : Addr) (n : Nat) : Prop := ∃ a b c : Int, H p = some (.lst [.int a, .int b, .int c]) ∧ 0 ≤ a ∧ 0 ≤ b ∧ b < 2 ^ 130 ∧ 0 ≤ c ∧ c ≤ (n : Int)
def spSack (K : PySem.W.Frag) : Sp := fun vs H Q _ => ∃ (a : Addr) (ns : List Int) (r : Nat), vs = [.ref a, .int r] ∧ SqL K H a (ns.map V.int) ∧ ns.length ≤ 100 ∧ r < 100 ∧
  ∀ H' p, H p = none → Same H H' → (∀ b, b ≠ p → H' b = H b) → SackAt H' p 0 → Q (.ref p) H'
def spPick : Sp := fun vs H Q _ => ∃ (p : Addr) (n : Nat) (m : Int), vs = [.ref p, .int m] ∧ SackAt H p n ∧ n < 1000 ∧ 0 < m ∧ m < 2 ^ 200 ∧
  ∀ H' r, 0 ≤ r → r < m → (∀ b, b ≠ p → H' b = H b) → SackAt H' p (n + 1) → Q (.int r) H'
section
variable {P : Program} {w : World} {K : PySem.W.Frag} {mg : Str → Option Value} {base : Heap}
theorem scSack : FnScope ["_law_script", "_law_rank", "_law_cell"] ["_law_script", "_law_rank"] (defScope sSack) := ⟨rfl, rfl, rfl, by decide +kernel, rfl, by decide +kernel, by decide +kernel⟩
theorem ok_sack {f : Addr} {fd : FuncData} (F : Fun K "_law_hd_sack" "_law_hd_sack" sSack f fd) (T : TxtN K mg) : FnOk P w K mg base CX0 1 f fd ["_law_script", "_law_rank"] (spSack K) := by
  refine F.ok scSack (fun vs H Q E h => ?_) (fun cdv A outer s H vs Q E hr h => ?_)
  · obtain ⟨a, ns, r, rfl, _⟩ := h
    rfl
  · obtain ⟨a, ns, r, rfl, hS, hl, hr0, k⟩ := h
    refine ⟨_, pss_cons (ps_set (i := 2) scSack.nd rfl (Or.inl rfl) (pe_ifExp (pt_cmpR op_lt (pv 1) (pe_callB call_len_seq (by rfl) T.len PySem.boot_len (pa_cons (pv 0) pa_nil)) (nomark _)) (pe_ix ix_list (pv 0) (pv 1) (fun _ _ => rfl)) pe_int))
      (pss_one (ps_ret (pe_lst (pa_cons (pe_callB (call_max2 rfl) (by rfl) T.max (by decide +kernel) (pa_cons pe_int (pa_cons (pe_op op_sub (pe_callB call_abs (by rfl) T.abs (by decide +kernel) (pa_cons (pv 2) pa_nil)) (pe_op op_pow pe_int pe_int)) pa_nil)))
        (pa_cons (pe_op op_modN (pe_callTy call_int1 (by rfl) T.int (by decide +kernel) (pa_cons (pe_op op_add (pe_op op_add (pe_op op_mul (pv 2) pe_int) (pe_op op_mul (pv 1) pe_int)) pe_int) pa_nil)) (pe_op op_add (pe_op op_pow pe_int pe_int) pe_int))
        (pa_cons pe_int pa_nil)))))), ?_⟩
    refine ⟨_, rfl, _, rfl, a, _, rfl, .inl hS, _, _, rfl, rfl, _, rfl, ?_⟩
    have cellAll : ∀ c : Int, (0 : Int) ≤ (if (if c < 0 then -c else c) - 10 ^ 18 > 0 then (if c < 0 then -c else c) - 10 ^ 18 else 0) := fun c => by split <;> omega
    have modLe : ∀ x : Int, 0 ≤ x.fmod (10 ^ 36 + 67) ∧ x.fmod (10 ^ 36 + 67) < 2 ^ 130 := fun x => by
      rw [Int.fmod_eq_emod_of_nonneg x (by decide)]
      have h1 := Int.emod_nonneg x (show (10 ^ 36 + 67 : Int) ≠ 0 by decide)
      have h2 := Int.emod_lt_of_pos x (show (0 : Int) < 10 ^ 36 + 67 by decide)
      exact ⟨h1, Int.lt_trans h2 (by decide)⟩
    refine ite2 (fun hc => ?A) (fun hc => ?B)
    case' A =>
      have hc' : r < ns.length := by
        have := of_decide_eq_true hc
        rw [List.length_map] at this
        omega
      refine ⟨_, rfl, _, rfl, a, _, _, _, rfl, rfl, hS, atI_nat (by rw [List.getElem?_map, List.getElem?_eq_getElem hc']; rfl), ?_⟩
    all_goals
      refine ⟨_, rfl, _, rfl, _, _, rfl, rfl, ⟨by decide, by decide, by decide⟩, _, _, rfl, rfl, _, _, rfl, ?_⟩
      refine ⟨_, rfl, _, _, rfl, rfl, .inr ⟨by decide, by decide⟩, _, rfl, _, _, rfl, rfl, .inr ⟨by decide, by decide⟩, _, _, rfl, rfl, _, _, rfl, rfl, .inl ⟨_, rfl, ?_⟩⟩
      refine ⟨_, _, rfl, rfl, ⟨by decide, by decide, by decide⟩, _, _, rfl, rfl, _, _, rfl, rfl, (show (10 ^ 36 + 67 : Int) ≠ 0 by decide), ?_⟩
      refine ⟨by show 3 ≤ sizeLine; decide, fun p hp => ?_⟩
      refine k _ p hp (fun b o e => ?_) (fun b hb => upd_ne hb) ⟨_, _, _, upd_same, cellAll _, (modLe _).1, (modLe _).2, by decide, by decide⟩
      rw [upd_ne (ne_of_none e hp)]
      exact e
theorem scPick : FnScope ["_law_sack", "_law_many", "_law_drawn", "_law_stirred"] ["_law_sack", "_law_many"] (defScope sPick) := ⟨rfl, rfl, rfl, by decide +kernel, rfl, by decide +kernel, by decide +kernel⟩
theorem ok_pick {f : Addr} {fd : FuncData} (F : Fun K "_law_hd_pick" "_law_hd_pick" sPick f fd) (T : TxtN K mg) : FnOk P w K mg base CX0 1 f fd ["_law_sack", "_law_many"] spPick := by
  refine F.ok scPick (fun vs H Q E h => ?_) (fun cdv A outer s H vs Q E hr h => ?_)
  · obtain ⟨p, n, m, rfl, _⟩ := h
    rfl
  · obtain ⟨p, n, m, rfl, ⟨a, b, c, hp, ha, hb, hb2, hc, hcn⟩, hn, hm, hm2, k⟩ := h
    refine ⟨_, pss_cons (ps_if (pt_cmpR op_gt (pe_ix ix_list (pv 0) pe_int (fun _ _ => rfl)) pe_int (nomark _))
        (pss_cons (ps_set (i := 2) scPick.nd rfl (Or.inl rfl) (pe_op op_modN (pe_callTy call_int1 (by rfl) T.int (by decide +kernel) (pa_cons (pe_ix ix_list (pv 0) pe_int (fun _ _ => rfl)) pa_nil)) (pv 1)))
          (pss_cons (ps_asg (pe_op op_fdivW (pe_ix ix_list (pv 0) pe_int (fun _ _ => rfl)) (pv 1)) (pg_sub (pv 0) pe_int set_list)) (pss_one (ps_ret (pv 2))))) pss_nil)
      (pss_cons (ps_asg (pe_op op_add (pe_ix ix_list (pv 0) pe_int (fun _ _ => rfl)) pe_int) (pg_sub (pv 0) pe_int set_list))
      (pss_cons (ps_set (i := 3) scPick.nd rfl (Or.inl rfl) (pe_op op_modN (pe_op op_powG (pe_callTy call_int1 (by rfl) T.int (by decide +kernel) (pa_cons (pe_op op_add (pe_ix ix_list (pv 0) pe_int (fun _ _ => rfl)) (pe_op op_mul pe_int (pe_ix ix_list (pv 0) pe_int (fun _ _ => rfl)))) pa_nil)) pe_int) (pe_op op_add (pe_op op_pow pe_int pe_int) pe_int)))
      (pss_cons (ps_set (i := 3) scPick.nd rfl (Or.inl rfl) (pe_op op_modN (pe_op op_powG (pe_callTy call_int1 (by rfl) T.int (by decide +kernel) (pa_cons (pe_op op_add (pv 3) (pe_op op_mul pe_int (pe_ix ix_list (pv 0) pe_int (fun _ _ => rfl)))) pa_nil)) pe_int) (pe_op op_add (pe_op op_pow pe_int pe_int) pe_int)))
      (pss_one (ps_ret (pe_op op_modN (pe_callTy call_int1 (by rfl) T.int (by decide +kernel) (pa_cons (pe_op op_fdiv (pv 3) pe_int) pa_nil)) (pv 1))))))), ?_⟩
    refine ⟨_, rfl, p, _, _, _, rfl, rfl, SqL.of hp, rfl, _, _, rfl, rfl, _, rfl, ?_⟩
    refine ite2 (fun hg => ?_) (fun hg => ?_)
    · refine ⟨_, rfl, p, _, _, _, rfl, rfl, SqL.of hp, rfl, .inl ⟨_, rfl, ?_⟩⟩
      refine ⟨_, rfl, _, _, rfl, rfl, (by omega), ?_⟩
      refine ⟨_, rfl, p, _, _, _, rfl, rfl, SqL.of hp, rfl, _, rfl, _, _, rfl, rfl, wide_div hm (b := 201) (by omega) (by decide) (by decide), ?_⟩
      refine ⟨_, rfl, p, _, _, 0, rfl, rfl, hp, rfl, ?_⟩
      refine ⟨_, rfl, ?_⟩
      refine k _ _ (Int.fmod_nonneg_of_pos _ hm) (Int.fmod_lt_of_pos _ hm) (fun x hx => upd_ne hx) ⟨_, _, _, upd_same, Int.ediv_nonneg ha (by omega), hb, hb2, hc, by omega⟩
    · refine ⟨_, rfl, p, _, _, _, rfl, rfl, SqL.of hp, rfl, _, _, rfl, rfl, _, rfl, p, _, _, 2, rfl, rfl, hp, rfl, ?_⟩
      have h1 : upd H p (.lst [.int a, .int b, .int (c + 1)]) p = some (.lst [.int a, .int b, .int (c + 1)]) := upd_same
      refine ⟨_, rfl, p, _, _, _, rfl, rfl, SqL.of h1, rfl, _, rfl, p, _, _, _, rfl, rfl, SqL.of h1, rfl, _, _, rfl, rfl, .inr ⟨by omega, by omega⟩, _, _, rfl, rfl, .inl ⟨_, rfl, ?_⟩⟩
      refine ⟨_, _, rfl, rfl, ⟨by decide, by decide, ?_⟩, _, _, rfl, rfl, ⟨by decide, by decide, by decide⟩, _, _, rfl, rfl, _, _, rfl, rfl, (show (10 ^ 40 + 121 : Int) ≠ 0 by decide), ?_⟩
      · have hb3 : b < 2 ^ 130 := hb2
        refine Nat.lt_of_lt_of_le (show _ < 2 ^ 131 from ?_) (by decide)
        omega
      obtain ⟨z, hz⟩ : ∃ z : Int, z = ((b + 1300190417 * (c + 1)) ^ Int.toNat 3).fmod (10 ^ Int.toNat 40 + 121) := ⟨_, rfl⟩
      have hz0 : 0 ≤ z := by rw [hz]; exact Int.fmod_nonneg_of_pos _ (by decide)
      have hz1 : z < 10 ^ 40 + 121 := by rw [hz]; exact Int.fmod_lt_of_pos _ (show (0 : Int) < 10 ^ 40 + 121 by decide)
      refine ⟨_, rfl, _, rfl, p, _, _, _, rfl, rfl, SqL.of h1, rfl, _, _, rfl, rfl, .inr ⟨by omega, by omega⟩, _, _, rfl, rfl, .inl ⟨_, rfl, ?_⟩⟩
      refine ⟨_, _, rfl, rfl, ⟨by decide, by decide, ?_⟩, _, _, rfl, rfl, ⟨by decide, by decide, by decide⟩, _, _, rfl, rfl, _, _, rfl, rfl, (show (10 ^ 36 + 67 : Int) ≠ 0 by decide), ?_⟩
      · have hz2 : z < 2 ^ 140 := Int.lt_trans hz1 (by decide)
        show (((b + 1300190417 * (c + 1)) ^ Int.toNat 3).fmod (10 ^ Int.toNat 40 + 121) + 15485863 * (c + 1)).natAbs < _
        rw [← hz]
        refine Nat.lt_of_lt_of_le (show _ < 2 ^ 141 from ?_) (by decide)
        omega
      refine ⟨_, rfl, _, _, rfl, rfl, ⟨by decide, by decide⟩, .inl ⟨_, rfl, ?_⟩⟩
      refine ⟨_, rfl, _, _, rfl, rfl, (by omega), ?_⟩
      exact k _ _ (Int.fmod_nonneg_of_pos _ hm) (Int.fmod_lt_of_pos _ hm) (fun x hx => upd_ne hx) ⟨_, _, _, upd_same, ha, hb, hb2, by omega, by omega⟩
end
end K0

set_option Elab.async false
set_option linter.all false
set_option maxRecDepth 100000
set_option maxHeartbeats 4000000
namespace PySem
namespace HouseX
open PySem.HandSPX
section
variable {M : Model} {A : Around} {E : Value → Shared → Prop} {h : Heap} {g : Array GenState} {d : Drawn} {t : Nat} {os : OsState}
variable {nm q : Str} {C N : Addr} {bs bm bmB : List Value} {hdct : Bool} {sn : List Str} {sub : List Value} {ab : Bool} {col : Option Bool} {dd : Option Addr} {k0 k1 k2 k3 k5 : Option Value} {B newId initId : String}
/-- the look ahead of __new__, keywords too -/
theorem look_new (F : ExcBaseFacts B newId initId bmB) (hT : ∀ X : String, bm.contains (.type X) = bmB.contains (.type X)) {rest : List Value} {kw : List (Str × Value)} {Q : Unit → Shared → Prop}
    (hC : h.get? C = some (excClassObj nm q C N bs bm hdct sn sub ab col dd k0 k1 k2 k3 k5 newId)) (hq : Q () ⟨h, g, d, t, os⟩) : wpAny M A (checkBuiltinCall newId ⟨.ref C :: rest, kw⟩) Q E ⟨h, g, d, t, os⟩ := by
  have has : (Value.ref C :: bm).contains (.type B) = true := by
    rw [List.contains_cons, hT, F.hasB, Bool.or_true]
  have nostar := F.noStar
  simp only [checkBuiltinCall, F.newKind, F.newSplit, F.newRow]
  repeat (first
    | refine wpAny_loadPart_at hC ?_
    | (refine wpAny_isSubtype_exc hC ?_; rw [has])
    | refine wpAny_staticBase_exc hC ?_
    | refine wpAny_madeBy_exc hC ?_
    | simp only [bne_self_eq_false, Bool.false_eq_true, if_false]
    | wp_step)
  exact hq
end
section
variable {prog : Program} {w : World} {A : Around} {E : Value → Shared → Prop} {R : Result → Shared → Prop} {h : Heap} {g : Array GenState} {d : Drawn} {t : Nat} {os : OsState}
variable {nm q : Str} {C N : Addr} {bs bm bmB : List Value} {hdct : Bool} {sn : List Str} {sub : List Value} {ab : Bool} {col : Option Bool} {dd : Option Addr} {k0 k1 k2 k3 k5 : Option Value} {B newId initId : String}
/-- __new__ of such a class: a tuple of what came by place, the object -/
theorem new_kw (F : ExcBaseFacts B newId initId bmB) (hT : ∀ X : String, bm.contains (.type X) = bmB.contains (.type X)) {rest : List Value} {kw : List (Str × Value)}
    (hC : h.get? C = some (excClassObj nm q C N bs bm hdct sn sub ab col dd k0 k1 k2 k3 k5 newId))
    (hq : R (.ok (.ret (.ref (h.objs.size + 1)))) ⟨(h.push (W.kdv_tup rest)).push (excO C h.objs.size), g, d, t, os⟩) (hrest : rest.length ≤ sizeLine) :
    codeAny (model prog w) A (.builtin newId ⟨.ref C :: rest, kw⟩) R ⟨h, g, d, t, os⟩ := by
  have ends := F.ends
  have isB : (Value.ref C :: bm).contains (.type B) = true := by
    rw [List.contains_cons, hT, F.hasB, Bool.or_true]
  have noA : (Value.ref C :: bm).contains (.type "AttributeError") = false := by
    rw [List.contains_cons, hT, F.noAttr]
    rfl
  have noN : (Value.ref C :: bm).contains (.type "NameError") = false := by
    rw [List.contains_cons, hT, F.noName]
    rfl
  refine codeAny_builtinAt F.entry ?_
  unfold Builtin.«BaseException.__new__»
  refine wpAt_bind ?_
  show wpAt _ _ _ (stack >>= _) _ _ _
  refine wpAt_bind (wpAt_stack fun p below => wpAt_of_wpAny ?_)
  wp_walk
  refine wpAt_of_wpAny ?_
  rw [F.owner]
  repeat (first
    | with_reducible refine wpAny_madeHere_exc F.canon hC ?_
    | with_reducible refine wpAny_loadPart_at hC ?_
    | (with_reducible refine wpAny_isSubtype_exc hC ?_; first | rw [isB] | rw [noA] | rw [noN])
    | wp_step)
  show R _ _
  rw [Heap.size_push]
  exact hq
/-- C(.., k = v): __new__, then the own __init__ -/
theorem made_kw (F : ExcBaseFacts B newId initId bmB) (hT : ∀ X : String, bm.contains (.type X) = bmB.contains (.type X)) {rest : List Value} {kw : List (Str × Value)} {fI : Addr} {Q : Fin → Shared → Prop}
    (hC : h.get? C = some (excClassObj nm q C N bs bm hdct sn sub ab col dd k0 k1 k2 k3 k5 newId))
    (hi : W.Looks (model prog w) h (typeLookup (.ref C) "__init__") (some (.ref fI))) (hb : ∀ self, W.Looks (model prog w) h (bindSpecial (.ref fI) self) (.ref fI, [self])) (hrest : rest.length ≤ sizeLine)
    (hq : codeAny (model prog w) A (.call (.ref fI) ⟨.ref (h.objs.size + 1) :: rest, kw⟩)
      (fun r s' => match r with | .ok (.ret v) => v = .none ∧ Q (.done (.ret (.ref (h.objs.size + 1)))) s' | .ok _ => False | .error e => E e s')
      ⟨(h.push (W.kdv_tup rest)).push (excO C h.objs.size), g, d, t, os⟩) :
    wpAny (model prog w) A (Builtin.«type.__call__» ⟨.ref C :: rest, kw⟩) Q E ⟨h, g, d, t, os⟩ := by
  repeat (first
    | with_reducible refine wpAny_loadPart_at hC ?_
    | with_reducible refine wpAny_madeBy_exc hC ?_
    | wp_step)
  refine codeAny_call_builtin_code (Code.quiet_builtin _ F.quiet) (look_new F hT hC ?_)
  refine new_kw F hT hC ?_ hrest
  show wpAny _ _ _ _ _ _
  have keep : ∀ b o, h.get? b = some o → ((h.push (W.kdv_tup rest)).push (excO C h.objs.size)).get? b = some o := fun b o e =>
    Heap.get?_push_of_some _ (Heap.get?_push_of_some _ e)
  have hC' := keep _ _ hC
  have hget : ((h.push (W.kdv_tup rest)).push (excO C h.objs.size)).get? (h.objs.size + 1) = some (excO C h.objs.size) := by
    heap_get
  have self : (Value.ref C :: bm).contains (.ref C) = true := by simp
  have i1 := hi.keeps keep
  have b1 := (hb (.ref (h.objs.size + 1))).keeps keep
  unfold isInstance
  repeat (first
    | with_reducible refine wpAny_loadPart_at hget ?_
    | (with_reducible refine wpAny_isSubtype_exc hC' ?_; rw [self])
    | wp_step)
  show wpAny _ _ (typeLookup (.ref C) _) _ _ _
  refine i1.at ?_
  refine wpAny_holding (wpAny_bind (b1.at ?_))
  refine wpAny_bind (wpAny_call (codeAny_mono hq fun r s' z => ?_))
  cases r with
  | error e => exact z
  | ok fl =>
    cases fl with
    | next => exact z.elim
    | brk => exact z.elim
    | cont => exact z.elim
    | ret v =>
      obtain ⟨rfl, z⟩ := z
      first
        | exact wpAny_pure (wpAny_pure z)
        | (wp_walk; exact z)
theorem look_call {M : Model} {rest : List Value} {kw : List (Str × Value)} {Q : Unit → Shared → Prop} (hC : h.get? C = some (excClassObj nm q C N bs bm hdct sn sub ab col dd k0 k1 k2 k3 k5 newId))
    (hq : Q () ⟨h, g, d, t, os⟩) : wpAny M A (checkBuiltinCall "type.__call__" ⟨.ref C :: rest, kw⟩) Q E ⟨h, g, d, t, os⟩ := by
  have f3 := tc_sub
  have isTy : (⟨h, g, d, t, os⟩ : Shared).TypeIs (.ref C) "type" := ⟨_, hC, rfl⟩
  simp only [checkBuiltinCall, tc_kind, tc_split]
  repeat (any_goals (first
    | assumption
    | with_reducible refine wpAny_loadPart_at hC ?_
    | with_reducible refine wpAny_onRaise ?_
    | with_reducible refine wpAny_map ?_
    | wp_step))
theorem call_kw (F : ExcBaseFacts B newId initId bmB) (hT : ∀ X : String, bm.contains (.type X) = bmB.contains (.type X)) {rest : List Value} {kw : List (Str × Value)} {fI : Addr}
    (hC : h.get? C = some (excClassObj nm q C N bs bm hdct sn sub ab col dd k0 k1 k2 k3 k5 newId))
    (hi : W.Looks (model prog w) h (typeLookup (.ref C) "__init__") (some (.ref fI))) (hb : ∀ self, W.Looks (model prog w) h (bindSpecial (.ref fI) self) (.ref fI, [self])) (hrest : rest.length ≤ sizeLine)
    (hq : codeAny (model prog w) (A.under (.builtin "type.__call__" ⟨.ref C :: rest, kw⟩)) (.call (.ref fI) ⟨.ref (h.objs.size + 1) :: rest, kw⟩) (W.InitBack (h.objs.size + 1) R)
      ⟨(h.push (W.kdv_tup rest)).push (excO C h.objs.size), g, d, t, os⟩) :
    codeAny (model prog w) A (.call (.ref C) ⟨rest, kw⟩) R ⟨h, g, d, t, os⟩ := by
  have f1 := tc_lookup
  have f2 := tc_bind (.ref C)
  have isTy : (⟨h, g, d, t, os⟩ : Shared).TypeIs (.ref C) "type" := ⟨_, hC, rfl⟩
  refine codeAny_of_tree ?_
  show wpAny _ _ (callAny (.ref C) _) _ _ _
  repeat (any_goals (first
    | assumption
    | with_reducible refine wpAny_loadPart_at hC ?_
    | wp_step))
  refine ⟨rfl, ?_⟩
  refine codeAny_call_builtin_at (Code.quiet_builtin _ (by decide +kernel)) entry_typeCall (look_call hC (made_kw F hT hC hi hb hrest ?_))
  refine codeAny_mono hq fun r s' z => ?_
  rcases r with e | (v | _ | _ | _) <;> exact z
end
end HouseX
end PySem

set_option Elab.async false
set_option linter.all false
set_option maxRecDepth 100000
set_option maxHeartbeats 4000000
namespace PySem
namespace HouseX
open PySem.W PySem.Calls PyProof.Rows PySem.HandSPX
/-! ### HouseError, its __init__, and the classes below it -/
def iA (p1 p2 : Pos) : Arguments := { posonlyargs := [], args := [{ arg := "self", annotation := none, pos := p1 }, { arg := "value", annotation := none, pos := p2 }], vararg := none, kwonlyargs := [], kw_defaults := [], kwarg := none, defaults := [] }
def iB (q1 q2 q3 q4 : Pos) : List Stmt := [.Assign [.Attribute (.Name "self" q1) "value" q2] (.Name "value" q3) q4]
def iS : Scope := { kind := .function, names := [(PySem.Str.ofString "self", .local), (PySem.Str.ofString "value", .local)], isGenerator := false, isCoroutine := false, more := [] }
/-- what the written part says of the base's __init__, at fI -/
def InitTxt (K : Frag) (fI : Addr) : Prop := ∃ (oc : Value) (od : Option Addr) (doc pm : Value) (an : Option Addr) (cdv ct : Value) (osl : Array (Option Value)) (p1 p2 q1 q2 q3 q4 : Pos),
    K.lookup fI = some ⟨oc, od, .func (fnOf "__init__" "HouseError.__init__" (iA p1 p2) (iB q1 q2 q3 q4) iS .none .none doc pm an cdv ct), osl⟩ ∧ codeIn K cdv "HouseError.__init__" = true
/-- what the written part says of a class of the family, at C; bm: its bases, all of them -/
structure ErrTxt (K : Frag) (C fI : Addr) (bm : List Value) : Prop where
  cls : ∃ nm q N bs sn sub ab col dd k0 k1 k2 k3 k5, K.lookup C = some (excClassObj nm q C N bs bm true sn sub ab col dd k0 k1 k2 k3 k5 "ValueError.__new__")
  bases : refsVE bm = true
  sa : findIn K (.ref C) "__setattr__" = some (some (.builtin "object.__setattr__"))
  ga : findIn K (.ref C) "__getattribute__" = some (some (.builtin "BaseException.__getattribute__"))
  gg : findIn K (.ref C) "__getattr__" = some none
  noN : findIn K (.ref C) "value" = some none
  iC : findIn K (.ref C) "__init__" = some (some (.ref fI))
  tC : typeIn K (.ref fI) = some (.type "function")
  kC : keepIn K (.ref C) = true
  exC : subIn K (.ref C) (.type "BaseException") = some true
  hdC : hasDictIn K C = true
  fn : InitTxt K fI
theorem ldC {M : Model} {s : Shared} {name : Str} {scope : Scope} {L a : Addr} {cd : Value} {m : Str → Option Value} {x : Str} {pos : Pos} {v : Value} {Q : Value → Shared → Prop} {A : Around} {E : Value → Shared → Prop} (hn : s.heap.Ns L m) (hv : m x = some v) (h : Q v s)
    (hk : scope.kind = .function := by rfl) (hl : (envOfC name scope L a cd).kindOf x = some .local := by rfl) (hd : (x == ("__debug__" : Str)) = false := by decide) :
    wpAny M A (eval (.Name x pos) (envOfC name scope L a cd)) Q E s := wpAny_Name (wpAny_loadName_local hk hl hn hv h) hd
/-- what __init__ leaves of a fresh error at x -/
structure InitEnd (h h' : Heap) (x C dx t1 : Addr) (v : Value) : Prop where
  keep : ∀ b o, b ≠ x → h.get? b = some o → h'.get? b = some o
  obj : h'.get? x = some { cls := .ref C, dict := some dx, data := .fields #[.ref t1, .none, .none, .none, .bool false, .none] }
  dbig : h.objs.size ≤ dx
  dne : dx ≠ x
  ns : h'.Ns1 dx (fun y => if y = "value" then some v else none)
/-- a made error -/
structure OwnMade (h h' : Heap) (e C d : Addr) (v : Value) : Prop where
  keep : ∀ b o, h.get? b = some o → h'.get? b = some o
  new : h.objs.size ≤ e
  obj : ∃ oe vs, h'.get? e = some oe ∧ oe.cls = .ref C ∧ oe.dict = some d ∧ oe.data = .fields vs ∧ vs[1]? = some .none
  dbig : h.objs.size ≤ d
  dne : d ≠ e
  ns : h'.Ns1 d (fun y => if y = "value" then some v else none)
/-- value by its place, or by its name -/
inductive OneArg (v : Value) : List Value → List (Str × Value) → Prop
  | place : OneArg v [v] []
  | name : OneArg v [] [("value", v)]
section
variable {prog : Program} {w : World} {A : Around} {E : Value → Shared → Prop} {R : Result → Shared → Prop} {s : Shared} {K : Frag} {C fI : Addr} {bm : List Value}
theorem err_init (T : ErrTxt K C fI bm) {x t0 : Addr} {v : Value} {us : List Value} {kw : List (Str × Value)} (ha : OneArg v us kw) (X : K.In s.heap) (hlim : s.heap.NoLimit) (hx : s.heap.get? x = some (excO C t0)) (hnx : K.lookup x = none) (hroom : A.depth < recursionLimit)
    (hq : ∀ h' tk dx, InitEnd s.heap h' x C dx t0 v → R (.ok (.ret .none)) { s with heap := h', toks := tk }) :
    codeAny (model prog w) A (.call (.ref fI) ⟨.ref x :: us, kw⟩) R s := by
  obtain ⟨oc, od, doc, pm, an, cdv, ct, osl, p1, p2, q1, q2, q3, q4, ho, hcd⟩ := T.fn
  obtain ⟨nm, q, N, bs, sn, sub, ab, col, dd, k0, k1, k2, k3, k5, hC⟩ := T.cls
  have hbm := T.bases
  have hcl : clsIn K C = some { name := nm, bases := bs, mro := .ref C :: bm, ns := N, qualname := q, hasDict := true, slotNames := sn, subclasses := sub, abstract := ab, collection := col, hasDel := false } := by
    unfold clsIn
    rw [hC] <;> rfl
  have hb : BindsTo s (fnOf "__init__" "HouseError.__init__" (iA p1 p2) (iB q1 q2 q3 q4) iS .none .none doc pm an cdv ct) ⟨.ref x :: us, kw⟩ [("self", .ref x), ("value", v)] := by
    cases ha with
    | place => exact BindsTo.of_eq (by first | rfl | with_unfolding_all rfl)
    | name => exact BindsTo.of_eq (by first | rfl | with_unfolding_all rfl)
  refine Att.call_fn (binds := [("self", .ref x), ("value", v)]) X hlim ho hcd hroom hb (by first | rfl | decide | with_unfolding_all rfl) (fun s₁ IC => ?_) rfl rfl rfl
  obtain ⟨h₁, tk₁, rfl⟩ := IC.toInCall.same
  have k : ∀ b o, s.heap.get? b = some o → h₁.get? b = some o := IC.toInCall.keep
  have hn := IC.toInCall.ns
  have hxL : s.heap.objs.size ≠ x := Nat.ne_of_gt (Heap.lt_size hx)
  have X₁ : K.In h₁ := X.keeps k
  have hx₁ := k _ _ hx
  -- self.value = value
  show wpAny _ _ (execs _ _) _ _ _
  refine wpAny_execs_cons (plainObj_wpAny_Assign_Attribute ?_)
  refine ldC (v := v) hn (by first | rfl | with_unfolding_all rfl | kernel_rfl) (ldC (v := .ref x) hn (by first | rfl | with_unfolding_all rfl | kernel_rfl) ?_)
  refine set_plain X₁ (ox := excO C t0) (od := none) ⟨hx₁, rfl, rfl, trivial⟩ T.sa ?_
  refine exc_osa X₁ hx₁ hcl (show refsVE (.ref C :: bm) = true from hbm) rfl T.noN (fun h₃ tk₃ dx k₃ dn dne hx₃ hn₃ => ?_)
  show wpAny _ _ (execs _ _) _ _ _
  have z : s.heap.objs.size < h₁.objs.size := hn.lt
  exact wpAny_execs_nil (hq h₃ tk₃ dx ⟨fun b o hb e => k₃ b o hb (k b o e), hx₃, Nat.le_of_lt (Nat.lt_of_lt_of_le z dn), dne, hn₃⟩)
theorem err_made (T : ErrTxt K C fI bm) {v : Value} {us : List Value} {kw : List (Str × Value)} (ha : OneArg v us kw) (X : K.In s.heap) (hlim : s.heap.NoLimit) (hroom : A.depth + 1 < recursionLimit)
    (hq : ∀ h' tk e d, OwnMade s.heap h' e C d v → R (.ok (.ret (.ref e))) { s with heap := h', toks := tk }) :
    codeAny (model prog w) A (.call (.ref C) ⟨us, kw⟩) R s := by
  obtain ⟨nm, q, N, bs, sn, sub, ab, col, dd, k0, k1, k2, k3, k5, hC⟩ := T.cls
  have hbm := T.bases
  obtain ⟨hp, g, dr, tk, os⟩ := s
  have k : ∀ b o, hp.get? b = some o → ((hp.push (kdv_tup us)).push (excO C hp.objs.size)).get? b = some o := fun b o e => Heap.get?_push_of_some _ (Heap.get?_push_of_some _ e)
  have hget : ((hp.push (kdv_tup us)).push (excO C hp.objs.size)).get? (hp.objs.size + 1) = some (excO C hp.objs.size) := by heap_get
  have hnx : K.lookup (hp.objs.size + 1) = none := by
    cases e : K.lookup (hp.objs.size + 1) with
    | none => rfl
    | some o =>
      have z : hp.get? (hp.objs.size + 1) = some o := X _ _ e
      exact absurd (Nat.lt_of_succ_lt (Heap.lt_size z)) (Nat.lt_irrefl _)
  have hus : us.length ≤ sizeLine := by
    rw [sizeLine_eq]
    cases ha with
    | place => exact (by decide : 1 ≤ 16777216)
    | name => exact (by decide : 0 ≤ 16777216)
  refine call_kw F.excBase_ValueError (fun X => refsVE_contains X bm hbm) (X _ _ hC) (looks_findIn X T.iC) (fun self => bind_fn X self T.tC) hus ?_
  refine err_init (s := ⟨(hp.push (kdv_tup us)).push (excO C hp.objs.size), g, dr, tk, os⟩) T ha (X.keeps k) (hlim.keeps k) hget hnx ?_ fun h' tk' dx ⟨k', hx, dn, dne, hns⟩ => ?_
  · show A.depth + 1 < recursionLimit
    exact hroom
  · have old : ∀ b o, hp.get? b = some o → h'.get? b = some o := fun b o e => k' b o (Nat.ne_of_lt (Nat.lt_succ_of_lt (Heap.lt_size e))) (k b o e)
    have z : hp.objs.size + 1 + 1 ≤ dx := by
      first
        | (simpa only [Heap.size_push] using dn)
        | exact dn
        | (have q := dn; rw [Heap.size_push, Heap.size_push] at q; exact q)
    exact ⟨rfl, hq h' tk' (hp.objs.size + 1) dx ⟨old, Nat.le_succ _, ⟨_, _, hx, rfl, rfl, rfl, rfl⟩, Nat.le_trans (Nat.le_trans (Nat.le_succ _) (Nat.le_succ _)) z, dne, hns⟩⟩
end
end HouseX
end PySem

set_option Elab.async false
set_option linter.all false
set_option maxRecDepth 100000
set_option maxHeartbeats 4000000
namespace PySem
namespace HouseX
open PySem.W PySem.Calls PyProof.Rows PySem.HandSPX
section
variable {prog : Program} {w : World} {A : Around} {E : Value → Shared → Prop} {s : Shared} {K : Frag} {x D fI : Addr} {bm : List Value}
/-- the class of an error, asked by its name -/
structure AskTxt (K : Frag) (D : Addr) : Prop where
  ha : findIn K (.ref D) "__class__" = some (some (.builtin "object.__class__"))
  hn : specialIn K (.builtin "object.__class__") "__get__" = some (some (.builtin "getset_descriptor.__get__"))
  ht : takesIn K (.builtin "object.__class__") = some true
theorem ErrTxt.clsIs (T : ErrTxt K D fI bm) : ∃ cd : ClassData, clsIn K D = some cd ∧ cd.mro = .ref D :: bm := by
  obtain ⟨nm, q, N, bs, sn, sub, ab, col, dd, k0, k1, k2, k3, k5, hC⟩ := T.cls
  refine ⟨{ name := nm, bases := bs, mro := .ref D :: bm, ns := N, qualname := q, hasDict := true, slotNames := sn, subclasses := sub, abstract := ab, collection := col, hasDel := false }, ?_, rfl⟩
  unfold clsIn
  rw [hC] <;> rfl
theorem ErrTxt.sub (T : ErrTxt K D fI bm) (base : Value) : subIn K (.ref D) base = some ((Value.ref D :: bm).contains base) := by
  obtain ⟨cd, hc, hm⟩ := T.clsIs
  show mroIn K D base = _
  unfold mroIn
  rw [hc]
  show (if cd.mro.isEmpty = true then none else some (cd.mro.contains base)) = _
  rw [hm]
  rfl
theorem ErrTxt.tyIs (T : ErrTxt K D fI bm) : typeIn K (.ref D) = some (.type "type") := by
  obtain ⟨nm, q, N, bs, sn, sub, ab, col, dd, k0, k1, k2, k3, k5, hC⟩ := T.cls
  show (K.lookup D).map (·.cls) = _
  rw [hC]
  rfl
/-- isinstance of an error of the class D, asked of the class C -/
theorem ErrTxt.kit {C gI : Addr} {bn : List Value} (T : ErrTxt K D fI bm) (U : ErrTxt K C gI bn) : kitOne K (.ref D) (.ref C) = some ((Value.ref D :: bm).contains (.ref C)) := by
  unfold kitOne
  by_cases e : ((Value.ref D == Value.ref C) = true)
  · rw [if_pos e]
    have e2 : Value.ref D = Value.ref C := beq_iff_eq.mp e
    rw [e2]
    simp
  · rw [if_neg e]
    obtain ⟨cd, hc, _⟩ := U.clsIs
    show (if ((clsIn K C).isSome && typeIn K (.ref C) == some (.type "type")) = true then subIn K (.ref D) (.ref C) else none) = _
    rw [hc, U.tyIs, if_pos (by rfl), T.sub]
theorem ErrTxt.kitTy (T : ErrTxt K D fI bm) {n : String} (h : kitMeta n = true) : kitOne K (.ref D) (.type n) = some (bm.contains (.type n)) := by
  unfold kitOne
  rw [if_neg (by exact fun z => nomatch (beq_iff_eq.mp z : Value.ref D = Value.type n))]
  show (if kitMeta n = true then subIn K (.ref D) (.type n) else none) = _
  rw [if_pos h, T.sub, List.contains_cons]
  have : (Value.type n == Value.ref D) = false := rfl
  rw [this, Bool.false_or]
theorem askData {od : Option Obj} (T : ErrTxt K D fI bm) (S : AskTxt K D) : findObj K D od "__class__" = some (.bind (.builtin "getset_descriptor.__get__") (.builtin "object.__class__")) := by
  obtain ⟨cd, hc, _⟩ := T.clsIs
  unfold findObj
  rw [hc, Option.bind_some, S.ha, Option.bind_some]
  simp [S.hn, S.ht]
theorem askClass {ox : Obj} {od : Option Obj} {Q : Option Value → Shared → Prop} (T : ErrTxt K D fI bm) (S : AskTxt K D) (hm : mroIn K D (.type "object") = some true)
    (X : K.In s.heap) (I : InstAt s.heap x ox D od) (h : Q (some (.ref D)) { s with toks := s.toks + 1 }) : wpAny (model prog w) A (getAttr? (.ref x) "__class__") Q E s := by
  have hf := askData (od := od) T S
  obtain ⟨hp, g, d, t, os⟩ := s
  have L0 := I.type (M := model prog w)
  have L1 := looks_findIn (M := model prog w) X T.ga
  have L2 := looks_findIn (M := model prog w) X T.gg
  have L3 := looks_find (M := model prog w) X I hf
  have isB : Looks (model prog w) hp (isInstance (.ref x) (.type "BaseException")) true := L0.andThen (looks_subIn X T.exC)
  have z0 : (false && onTheHeap (Value.builtin "BaseException.__getattribute__")) = false := rfl
  have z2 : (Value.builtin "BaseException.__getattribute__" == Value.builtin "object.__getattribute__") = false := by
    decide +kernel
  have z1 : (onTheHeap (Value.ref D) && Value.builtin "BaseException.__getattribute__" == Value.builtin "object.__getattribute__") = false := by
    rw [z2]
    rfl
  unfold getAttr? getAttrBy? getAttrBy
  refine wpAny_bind (wpAny_mkText (wpAny_bind (wpAny_attempt (wpAny_holding (wpAny_bind (L0.at (wpAny_bind (L1.at ?_))))))))
  show wpAny _ _ (if (onTheHeap (Value.ref D) && Value.builtin "BaseException.__getattribute__" == Value.builtin "object.__getattribute__") = true then _ else _) _ _ _
  rw [z1, if_neg Bool.false_ne_true]
  unfold getAttrByItsOwn hookBefore
  refine wpAny_bind ?_
  rw [if_pos (show onTheHeap (Value.ref D) = true from rfl)]
  refine L2.at ?_
  refine wpAny_bind (wpAny_attempt (wpAny_holding ?_))
  unfold callGetattribute
  rw [z0, if_neg Bool.false_ne_true]
  unfold boundAndCalled
  rw [PySem.F.excAttr_ValueError.ga.bind (.ref x)]
  refine wpAny_bind (wpAny_pure ?_)
  show wpAny _ _ (call (.builtin "BaseException.__getattribute__") [.ref x, .str "__class__" t]) _ _ _
  refine wpAny_call (codeAny_call_builtin PySem.F.excAttr_ValueError.ga.plain PySem.F.entry_bexc_ga ?_)
  refine @check_slot (model prog w) _ _ ⟨hp, g, d, t + 1, os⟩ "BaseException.__getattribute__" "BaseException" "__getattribute__" (.ref x) [.str "__class__" t] [] _ (by decide +kernel) (by decide +kernel) isB (PySem.F.args_bexc_ga (.ref x) (.str "__class__" t)) ?_
  unfold Builtin.«object.__getattribute__»
  refine wpAny_bind (wpAny_of_eq (a := ((Value.ref x : Value), [Value.str "__class__" t])) (by first | rfl | (simp only [slotArgs]; rfl)) ?_)
  refine wpAny_bind (wpAny_pure (wpAny_bind (L0.at (wpAny_bind (L3.at ?_)))))
  show wpAny _ _ (holding [Value.builtin "object.__class__"] (call (.builtin "getset_descriptor.__get__") [.builtin "object.__class__", .ref x, .ref D]) >>= ret) _ _ _
  refine wpAny_bind (wpAny_holding (wpAny_call (class_get (s := ⟨hp, g, d, t + 1, os⟩) (ox := ox) (od := od) X I hm ?_)))
  refine wpAny_pure ?_
  show wpAny _ _ (handedOut (.ref D)) _ _ _
  rw [handedOut_of (v := .ref D) rfl]
  first
    | exact wpAny_pure (wpAny_pure h)
    | exact wpAny_pure h
    | exact wpAny_pure (wpAny_bind (wpAny_pure (wpAny_pure h)))
theorem kitErr (T : ErrTxt K D fI bm) (S : AskTxt K D) (hm : mroIn K D (.type "object") = some true) : KitX K (.ref x) (.ref D) (fun h => ∃ ox od, InstAt h x ox D od) where
  ty := fun _ _ _ ⟨_, _, I⟩ => I.type
  it := fun _ _ X _ => by
    obtain ⟨nm, q, N, bs, sn, sub, ab, col, dd, k0, k1, k2, k3, k5, hC⟩ := T.cls
    intro A' Q' E' s' k q
    unfold isType loadHead
    exact wpAny_bind (wpAny_loadPart (k _ _ (X _ _ hC)) (wpAny_pure q))
  ne := fun h tp dd its n sl X htp => by
    obtain ⟨nm, q, N, bs, sn, sub, ab, col, dd, k0, k1, k2, k3, k5, hC⟩ := T.cls
    refine Bool.eq_false_iff.mpr fun q => ?_
    have e : D = tp := Value.ref.inj (beq_iff_eq.mp q)
    subst e
    have z := congrArg Obj.cls (Option.some.inj ((X _ _ hC).symm.trans htp))
    have z2 : Value.type "type" = Value.type "tuple" := z
    injection z2 with z3
    exact absurd z3 (by decide)
  ca := fun X ⟨_, _, I⟩ k => askClass T S hm X I k
end
end HouseX
end PySem

namespace L2
open PySem PySem.Spec PyProof.Rows PySem.HouseX
/-- an error of the class at C, whose dict stands at d -/
def ErrO (C d a : Addr) : HO := .ext fun h => ∃ (oe : Obj) (vs : Array Value), h.get? a = some oe ∧ oe.cls = .ref C ∧ oe.dict = some d ∧ oe.data = .fields vs
theorem errO_ok {P : Program} {w : World} {H : Hp} {h : Heap} {a C d : Addr} {oe : Obj} {vs : Array Value} (e : h.get? a = some oe) (c : oe.cls = .ref C) (k : oe.dict = some d) (f : oe.data = .fields vs) : ObjOk P w H h a (ErrO C d a) :=
  ⟨⟨oe, vs, e, c, k, f⟩, ⟨oe, e⟩, fun _ _ ⟨o, v, q, r⟩ st => ⟨o, v, st o q, r⟩⟩
section
variable {X : Cx} {C fI : Addr} {bm : List Value}
theorem run_err {pins : List (Addr × Obj)} {σ : St} {H : Hp} {s : Shared} {Q : VK} {v : V} {v' : Value} {us : List Value} {kw : List (Str × Value)} {k : Nat} (T : ErrTxt X.K C fI bm) (hr : Room (k + 1) X.A) (I : Inv X pins σ H s) (r : RelV v v') (ha : OneArg v' us kw)
    (h : ∀ e d, H e = none → H d = none → e ≠ d → Q (.ref e) (upd (upd H d (.xd [(("value" : Str), v)])) e (ErrO C d e))) :
    wpAny (model X.prog X.w) X.A (call (.ref C) us kw) (EP X pins σ Q) X.xe s := by
  have hlim := I.nolimit
  obtain ⟨hp, g, dr, tk, os⟩ := s
  refine wpAny_call (err_made T ha I.kIn hlim (by have := hr.dp; omega) fun h' tk' e d M => ?_)
  obtain ⟨oe, fv, hoe, hc, hd, hdat, h1⟩ := M.obj
  have hns := M.ns
  obtain ⟨G', g1, g2⟩ := restrict h' fun b => decide (b ≠ e)
  have gk : ∀ b, b ≠ e → G'.get? b = h'.get? b := fun b hb => g1 b (decide_eq_true hb)
  have ge : G'.get? e = none := g2 e (by simp)
  have old : ∀ b o, hp.get? b = some o → G'.get? b = some o := fun b o q => (gk b (Nat.ne_of_lt (Nat.lt_of_lt_of_le (Heap.lt_size q) M.new))).trans (M.keep b o q)
  have rel : ∀ f : Str, RelO (List.lookup f [(("value" : Str), v)]) (if f = "value" then some v' else none) := fun f => by
    by_cases hw : f = "value"
    · subst hw
      rw [if_pos rfl]
      have q : List.lookup ("value" : Str) [(("value" : Str), v)] = some v := by simp [List.lookup]
      rw [q]
      exact r
    · rw [if_neg hw]
      have qw : (f == ("value" : Str)) = false := by simpa using hw
      have q2 : List.lookup f [(("value" : Str), v)] = none := by simp [List.lookup, qw]
      rw [q2]
      trivial
  have ob : ObjOk X.prog X.w (upd H d (.xd [(("value" : Str), v)])) G' d (.xd [(("value" : Str), v)]) :=
    ⟨_, hns.at (fun o q => (gk d M.dne).trans q), rel⟩
  have J : Inv X pins σ (upd H d (.xd [(("value" : Str), v)])) ⟨G', g, dr, tk', os⟩ := I.laid (t' := tk') old M.dbig ob
  have hne : H e = none := I.hok.fresh M.new
  have hnd : H d = none := I.hok.fresh M.dbig
  have hn : (upd H d (.xd [(("value" : Str), v)])) e = none := by
    rw [upd_ne (Ne.symm M.dne)]
    exact hne
  have keep2 : ∀ b u, G'.get? b = some u → h'.get? b = some u := fun b u q => by
    by_cases hb : b = e
    · rw [hb, ge] at q
      cases q
    · exact (gk b hb).symm.trans q
  have J2 := J.laidN (t' := tk') keep2 ge hn (errO_ok (P := X.prog) (w := X.w) hoe hc hd hdat)
  exact ⟨.ref e, _, J2, rfl, h e d hne hnd (Ne.symm M.dne)⟩
/-- C(e) -/
def tErr (C : Addr) (ta : TA) : TE := fun σ H Q => ta σ H fun vs H1 => ∃ v, vs = [v] ∧ ∀ e d, H1 e = none → H1 d = none → e ≠ d → Q (.ref e) (upd (upd H1 d (.xd [(("value" : Str), v)])) e (ErrO C d e))
theorem pe_err {x : Str} {a : Expr} {ta : TA} {p pos : Pos} {k : Nat} (T : ErrTxt X.K C fI bm) (gC : X.mg x = some (.ref C)) (hr : Room (k + 1) X.A) (ha : PA X [a] ta) (hg : Gl X x)
    (he : starEach (a :: []) X.env = (false, eval a X.env) :: starEach [] X.env := by rfl) (hpl : (backTo pos (starEach [] X.env)).any (·.1) = false := by rfl) (hdb : (x == ("__debug__" : Str)) = false := by decide) :
    PE X (.Call (.Name x p) [a] [] pos) (tErr C ta) := by
  refine ⟨fun pins s σ H Q I h => ?_⟩
  refine wpAny_Call_Name_kw (ld_glob I hg gC ?_ hdb)
  refine PySem.W.callWith_K (h₀ := X.base) I.ok.mod.kin T.kC (thn (ha.run pos pins s σ H _ I h) fun us s1 hh => ?_) he hpl
  obtain ⟨vs, H1, I1, r1, v, ev, q1⟩ := hh
  subst ev
  refine ⟨I1.kIn, ?_⟩
  cases r1 with
  | cons rv rn =>
    cases rn
    exact run_err T hr I1 rv .place q1
/-- C(value=e) -/
def tErrK (C : Addr) (tk : TA) : TE := fun σ H Q => tk σ H fun vs H1 => ∃ v, vs = [v] ∧ ∀ e d, H1 e = none → H1 d = none → e ≠ d → Q (.ref e) (upd (upd H1 d (.xd [(("value" : Str), v)])) e (ErrO C d e))
theorem pe_errK {x : Str} {kws : List Keyword} {tk : TA} {p pos : Pos} {k : Nat} (T : ErrTxt X.K C fI bm) (gC : X.mg x = some (.ref C)) (hr : Room (k + 1) X.A) (hkw : PK X kws tk) (hg : Gl X x)
    (hall : (backToKw pos (keywordEach kws X.env)).all (·.1.isSome) = true := by rfl) (hks : (backToKw pos (keywordEach kws X.env)).filterMap (·.1) = [("value" : Str)] := by rfl) (hdb : (x == ("__debug__" : Str)) = false := by decide)
    (hpl : ((backTo pos (starEach [] X.env)).any (·.1) || (backToKw pos (keywordEach kws X.env)).any (·.1.isNone)) = false := by rfl) :
    PE X (.Call (.Name x p) [] kws pos) (tErrK C tk) := by
  refine ⟨fun pins s σ H Q I h => ?_⟩
  refine wpAny_Call_Name_kw (ld_glob I hg gC ?_ hdb)
  refine PySem.W.callWith_KW0 (h₀ := X.base) I.ok.mod.kin T.kC hall ?_ hpl
  refine thn (hkw.run pos pins s σ H _ I h) fun ws s2 ⟨zs, H2, I2, rz, v, ev, q2⟩ => ⟨I2.kIn, ?_⟩
  rw [hks]
  subst ev
  cases rz with
  | cons rv rn =>
    cases rn
    exact run_err (us := []) T hr I2 rv .name q2
/-- e.value, e an error that stands in H -/
def tValue (K : PySem.W.Frag) (te : TE) : TE := fun σ H Q => te σ H fun x H1 => ∃ (a C d fI : Addr) (bm : List Value) (v : V), x = .ref a ∧ ErrTxt K C fI bm ∧ H1 a = some (ErrO C d a) ∧ H1 d = some (.xd [(("value" : Str), v)]) ∧ Q v H1
theorem inst_err {H : Hp} {h : Heap} {P : Program} {w : World} {a C d : Addr} {v : V} (hok : HOk P w H h) (e1 : H a = some (ErrO C d a)) (e2 : H d = some (.xd [(("value" : Str), v)])) :
    ∃ oe od u, PySem.W.InstAt h a oe C (some od) ∧ PySem.W.lookIn "value" od = some (some u) ∧ RelV v u := by
  obtain ⟨⟨oe, vs, ho, hc, hd, hf⟩, _, _⟩ := hok a _ e1
  obtain ⟨mA, hns, hr⟩ := (show ObjOk P w H h d (.xd [(("value" : Str), v)]) from hok d _ e2)
  obtain ⟨od, hod, hl⟩ := lookIn_ns hns
  have l : List.lookup ("value" : Str) [(("value" : Str), v)] = some v := by simp [List.lookup]
  obtain ⟨u, hu, ru⟩ := RelO.some_of (v := v) (o := mA "value") (by rw [← l]; exact hr "value")
  refine ⟨oe, od, u, ⟨ho, hc, ?_, ?_⟩, by rw [hl, hu], ru⟩
  · unfold PySem.W.notCls
    rw [hf] <;> rfl
  · rw [hd]
    exact hod
theorem pe_value {e : Expr} {te : TE} {pos : Pos} (he : PE X e te) (hb : attributeBase e "value" X.env (eval e X.env) = eval e X.env := by rfl) : PE X (.Attribute e "value" pos) (tValue X.K te) := by
  refine ⟨fun pins s σ H Q I h => ?_⟩
  refine attr_of hb (thn (he.run pins s σ H _ I h) fun u s1 hh => ?_)
  obtain ⟨x, H1, I1, rx, a, C, d, fI, bm, v, ex, T, ea, ed, q⟩ := hh
  subst ex
  obtain rfl : u = Value.ref a := rx
  obtain ⟨oe, od, u, J, hl, ru⟩ := inst_err I1.hok ea ed
  exact PySem.HandSPX.exc_get I1.kIn J T.ga T.gg T.exC (PySem.W.findObj_own T.hdC T.noN rfl hl) (handed_of ru) ⟨v, H1, I1.tok _, ru, q⟩
/-- isinstance(e, c), e an error that stands in H -/
def rIsErr (K : PySem.W.Frag) : List V → Hp → VK → Prop := fun xs H Q => ∃ (a D d fI : Addr) (bm : List Value) (v c : V) (cv : Value) (b : Bool), xs = [.ref a, c] ∧ ErrTxt K D fI bm ∧ AskTxt K D ∧ PySem.W.mroIn K D (.type "object") = some true ∧
  H a = some (ErrO D d a) ∧ H d = some (.xd [(("value" : Str), v)]) ∧ ClsV c cv ∧ PySem.W.kitOne K (.ref D) cv = some b ∧ Q (.bl b) H
theorem call_isErr : CallR X (.builtin "isinstance") (rIsErr X.K) := by
  intro pins s σ H xs us Q I r h
  obtain ⟨a, D, d, fI, bm, v, c, cv, b, rfl, T, S, hm, e1, e2, hcv, e, q⟩ := h
  obtain ⟨u1, u2, rfl, r1, r2⟩ := vals2 r
  have z := hcv.eq r2
  subst z
  obtain rfl : u1 = Value.ref a := r1
  obtain ⟨oe, od, u, J, hl, ru⟩ := inst_err I.hok e1 e2
  exact PySem.W.kia_one (kitErr T S hm) I.kIn ⟨oe, some od, J⟩ e (fun z => nomatch z) fun tk => ⟨.bl b, H, I.tok tk, rfl, q⟩
/-- repr(x), x data -/
def rReprD (K : PySem.W.Frag) : List V → Hp → VK → Prop := fun xs H Q => ∃ (x : V) (d : PyData), xs = [x] ∧ Dp K H x d ∧ d.showable = true ∧ d.hasDict = false ∧ isDisplay d = true ∧ d.depth ≤ 60 ∧ d.shown.length ≤ sizeLine ∧ Q (.str d.shown) H
theorem call_reprD (hg : X.A.guards = some []) (hu : X.A.units + 65 < cLine) : CallR X (.builtin "repr") (rReprD X.K) := by
  intro pins s σ H xs us Q I r h
  obtain ⟨x, d, rfl, hd, hs, hn, hi, hdep, hsz, q⟩ := h
  cases r with
  | cons rx rr =>
    cases rr
    rename_i u
    obtain ⟨as, r1⟩ := Dp.reads I d x u hd rx
    obtain ⟨a, rfl⟩ := isRef_of_reads r1 hi
    exact repr_of_reads' r1 hs (PyData.noDict_hsm hn) hg (by omega) (fun _ _ e => e) (fun h' u tk hk => ⟨.str d.shown, H, I.kept (t' := tk) hk, ⟨_, rfl⟩, q⟩) hsz
end
end L2

set_option Elab.async false
set_option linter.all false
set_option maxRecDepth 100000
set_option maxHeartbeats 4000000
/-! defs that may ask whether a list is being shown: nothing is, around them -/
namespace L2
open PySem PySem.Spec PyProof.Rows
structure FnG (P : Program) (w : World) (K : PySem.W.Frag) (mg : Str → Option Value) (base : Heap) (k : Nat) (f : Addr) (fd : FuncData) (ps : List Str) (sp : Sp) : Prop where
  len : ∀ vs H Q E, sp vs H Q E → vs.length = ps.length
  run : ∀ (A : Around) (outer : List Env) (s : Shared) (H : Hp) (args : Args) (us : List Value) (vs : List V) (Q : VK) (E : XK), A.guards = some [] → Room k A → Env0 P w K mg base A outer s H → BindsTo s fd args (ps.zip us) → Vals vs us →
    sp vs H Q E → codeAny (model P w) A (.call (.ref f) args) (CR CX0 outer P w H s Q E) s
theorem guards_deeper {A : Around} {env : Env} (h : A.guards = some []) : (A.deeper env).guards = some [] := by
  first
    | exact h
    | (simp [Around.deeper, h])
section
variable {P : Program} {w : World} {K : PySem.W.Frag} {mg : Str → Option Value} {base : Heap}
theorem Fun.okG {x qual : Str} {st : Stmt} {f : Addr} {fd : FuncData} {N ps : List Str} {k : Nat} {sp : Sp} (F : Fun K x qual st f fd) (S : FnScope N ps (defScope st)) (len : ∀ vs H Q E, sp vs H Q E → vs.length = ps.length)
    (hbody : ∀ (cdv : Value) (A : Around) (outer : List Env) (s : Shared) (H : Hp) (vs : List V) (Q : VK) (E : XK), (A.deeper (envOfC qual (defScope st) s.heap.objs.size f cdv)).guards = some [] →
      Room k (A.deeper (envOfC qual (defScope st) s.heap.objs.size f cdv)) → sp vs H Q E →
      ∃ t, PSs (cxOf CX0 P w K mg base N qual (defScope st) f cdv A outer s H E).nox (defBody st) t ∧ t { nx := fun _ H' => Q .non H', rt := Q } (start N vs) H) : FnG P w K mg base (k + 1) f fd ps sp := by
  obtain ⟨oc, od, kV, doc, pm, an, cdv, ct, osl, rfl, lk, hcd⟩ := F.ex
  refine ⟨len, fun A outer s H args us vs Q E hg hr e0 hb r hsp => ?_⟩
  have one := len _ _ _ _ hsp
  have inK : K.In s.heap := e0.mod.kin.keeps fun b o e => (e0.bs b o e).1
  have lim : s.heap.NoLimit := e0.mod.nolimit.keeps fun b o e => (e0.bs b o e).1
  have kinds : ∀ y ∈ ps.zip us, (defScope st).names.lookup y.1 = some .local ∨ ((defScope st).names.lookup y.1 = some .cell ∧ ((cellsFrom (s.heap.objs.size + 1) (defScope st).names []).lookup y.1).isSome = true) := by
    intro y hy
    rcases S.par y.1 (List.of_mem_zip hy).1 with q | q
    · exact .inl q
    · exact .inr ⟨q, PySem.W.cellsFrom_some _ _ _ (.inl q)⟩
  refine codeAny_call_function hr.depth (inK _ _ lk) rfl S.co S.gen rfl (PySem.W.codeRec_of inK hcd) (hb _ _ _ _ ?_)
  refine wpAny_newFunctionEnv_cells S.kind kinds fun env he s1 x => ?_
  subst he
  refine ⟨lim.keeps x.toInCall.keep, codeAny_func ?_⟩
  obtain ⟨t, ht0, hq⟩ := hbody cdv A outer s H vs Q E (guards_deeper hg) (hr.deeper _) hsp
  have ht := ht0.nox
  have I : Inv (cxOf CX0 P w K mg base N qual (defScope st) f cdv A outer s H E) [] (start N vs) H s1 := inv_start S hr.hd e0 one r x
  refine wpAny_mono (ht.run [] s1 (start N vs) H _ I hq) (fun fl s' hs => ?_) fun e s' hs => hs
  cases fl with
  | ret u =>
    obtain ⟨v, σ', H', J, rv, q⟩ := hs
    exact ⟨v, H', J.os, J.bare, J.base, J.hok, rv, q⟩
  | next =>
    obtain ⟨σ', H', J, q⟩ := hs
    exact ⟨V.non, H', J.os, J.bare, J.base, J.hok, rfl, q⟩
  | brk =>
    obtain ⟨_, _, _, q⟩ := hs
    exact q.elim
  | cont =>
    obtain ⟨_, _, _, q⟩ := hs
    exact q.elim
end
section
variable {X : Cx} {k : Nat} {f : Addr} {fd : FuncData} {ps : List Str} {sp : Sp} {x : Str} {p pos : Pos} {e : Expr} {es : List Expr} {t : TA}
theorem run_fnG {pins : List (Addr × Obj)} {σ : St} {H : Hp} {s : Shared} {Q : VK} {us : List Value} {vs : List V} (F : FnG X.prog X.w X.K X.mg X.base k f fd ps sp) (hg : X.A.guards = some []) (hr : Room k X.A) (hb : Binds X.K fd ps [])
    (I : Inv X pins σ H s) (r : Vals vs us) (h : sp vs H Q E0) : wpAny (model X.prog X.w) X.A (call (.ref f) us) (EP X pins σ Q) X.xe s := by
  have many : us.length = ps.length := by
    rw [← r.length]
    exact F.len _ _ _ _ h
  have bind : BindsTo s fd ⟨us, []⟩ (ps.zip us) := by
    have z := hb s us I.kIn (by simpa using many)
    simpa using z
  refine wpAny_call (codeAny_mono (F.run X.A X.stack s H ⟨us, []⟩ us vs Q E0 hg hr I.env0 bind r h) fun r s' hq => ?_)
  cases r with
  | error e => exact False.elim hq
  | ok fl =>
    cases fl with
    | ret u => exact I.after hq
    | next => exact hq.elim
    | brk => exact hq.elim
    | cont => exact hq.elim
theorem pe_callG (F : FnG X.prog X.w X.K X.mg X.base k f fd ps sp) (hG : X.A.guards = some []) (hr : Room k X.A) (hg : Gl X x) (hm : X.mg x = some (.ref f)) (hk : PySem.W.keepIn X.K (.ref f) = true) (hb : Binds X.K fd ps [])
    (ha : PA X (e :: es) t) (hdb : (x == ("__debug__" : Str)) = false := by decide) (he : starEach (e :: es) X.env = (false, eval e X.env) :: starEach es X.env := by rfl) (hpl : (backTo pos (starEach es X.env)).any (·.1) = false := by rfl) :
    PE X (.Call (.Name x p) (e :: es) [] pos) (fun σ H Q => t σ H fun vs H1 => sp vs H1 Q E0) := by
  refine ⟨fun pins s σ H Q I h => ?_⟩
  refine wpAny_Call_Name_kw (ld_glob I hg hm ?_ hdb)
  refine PySem.W.callWith_K (h₀ := X.base) I.ok.mod.kin hk (thn (ha.run pos pins s σ H _ I h) fun us s1 ⟨vs, H1, I1, r, q⟩ => ⟨I1.kIn, ?_⟩) he hpl
  exact run_fnG F hG hr hb I1 r q
end
theorem law_callG {P : Program} {w : World} {K : PySem.W.Frag} {mg mb : Str → Option Value} {k : Nat} {fa a : Addr} {fd : FuncData} {x : Str} {sp : Sp} {s₁ : Shared} {vs : List Value} {ns : List Int}
    (KX : K.In s₁.heap) (hns : s₁.heap.Ns mainGlobals mg) (hb : s₁.heap.Ns builtinsNs mb) (hbb : ∀ x : Str, x ≠ "__name__" → mb x = bootBuiltins x) (hlim : s₁.heap.NoLimit) (hg : s₁.gens = #[])
    (ha : s₁.heap.get? a = some { cls := .type "list", data := .seq vs.toArray }) (hi : IntsAre vs ns) (hl : ns.length ≤ sizeLine) (hr : Room k callerA)
    (F : ∀ base : Heap, K.In base → base.Ns mainGlobals mg → FnG P w K mg base k fa fd [x] sp) (hbind : ∀ (s : Shared) (u : Value), BindsTo s fd ⟨[u], []⟩ [(x, u)])
    (hsp : ∀ H : Hp, Only H → SqL K H a (ns.map V.int) → sp [.ref a] H (fun v _ => v = .bl true) fun _ _ _ => False) :
    codeAny (model P w) callerA (.call (.ref fa) ⟨[.ref a], []⟩) (fun r s' => r = .ok (.ret (.bool true)) ∧ OldK s₁.heap s'.heap ∧ s'.os = s₁.os ∧ AllBare s'.gens) s₁ := by
  have rv := vals_ints hi
  have lens := hi.length
  have core : ∀ H : Hp, Only H → SqL K H a (ns.map V.int) → HOk P w H s₁.heap → (∀ b, H b ≠ none → b = a) → (H a ≠ none → K.lookup a = none) →
      codeAny (model P w) callerA (.call (.ref fa) ⟨[.ref a], []⟩) (fun r s' => r = .ok (.ret (.bool true)) ∧ OldK s₁.heap s'.heap ∧ s'.os = s₁.os ∧ AllBare s'.gens) s₁ := by
    intro H only hS hok atA outK
    have hid : ∀ {b : Addr} {o : Obj}, s₁.heap.get? b = some o → H b = none → (hidT s₁.heap H).get? b = some o := fun e n => hidT_get e n
    have dict : ∀ {b : Addr} {o : Obj} {es : Array DictEntry} {ep : Nat}, s₁.heap.get? b = some o → o.data = .dict es ep → H b = none := by
      intro b o es ep e d
      cases q : H b with
      | none => rfl
      | some u =>
        have e' : b = a := atA b (by rw [q]; simp)
        subst e'
        rw [ha] at e
        cases e
        have d' : Data.seq vs.toArray _ = Data.dict es ep := d
        cases d'
    have nsH : ∀ {b : Addr} {m : Str → Option Value}, s₁.heap.Ns b m → (hidT s₁.heap H).Ns b m := by
      intro b m h
      obtain ⟨o, es, ep, e, d, r⟩ := h
      exact ⟨o, es, ep, hid e (dict e d), d, r⟩
    have inH : K.In (hidT s₁.heap H) := by
      intro b o e
      refine hid (KX b o e) ?_
      cases q : H b with
      | none => rfl
      | some u =>
        have e' : b = a := atA b (by rw [q]; simp)
        subst e'
        rw [outK (by rw [q]; simp)] at e
        cases e
    have hM : Mod K mg (hidT s₁.heap H) := by
      obtain ⟨mc, h1, h2⟩ := hlim
      exact ⟨inH, nsH hns, ⟨mb, nsH hb, hbb⟩, mc, nsH h1, h2⟩
    have e0 : Env0 P w K mg (hidT s₁.heap H) callerA [] s₁ H :=
      ⟨rfl, hM, fun b o e => of_hidT e, Nat.le_of_eq (hidT_size _ _), trivial, fun b hb => absurd (show b ∈ ([] : List Addr) from hb) (by simp), hok, .of_eq hg⟩
    refine codeAny_mono ((F _ inH (nsH hns)).run callerA [] s₁ H ⟨[.ref a], []⟩ [.ref a] [.ref a] _ _ rfl hr e0 (hbind s₁ (.ref a)) (.cons rfl .nil) (hsp H only hS)) fun r s' h => ?_
    cases r with
    | error e => exact False.elim h
    | ok fl =>
      cases fl with
      | next => exact h.elim
      | brk => exact h.elim
      | cont => exact h.elim
      | ret u =>
        obtain ⟨v, H', os, bare, un, hok', r', q⟩ := h
        obtain rfl : v = .bl true := q
        obtain rfl : u = Value.bool true := r'
        refine ⟨rfl, OldK.of_keep fun b o e => ?_, os, bare⟩
        cases q : H b with
        | none => exact un.keep b o e q (fun z => nomatch z) (by simp)
        | some u =>
          rcases only b with z | ⟨ob, xs, z⟩
          · rw [q] at z
            cases z
          · have z2 := un.frzs b ob _ z
            obtain ⟨e1, _⟩ := hok b _ z
            obtain ⟨e2, _⟩ := hok' b _ z2
            rw [e] at e1
            cases e1
            exact e2
  cases hk : K.lookup a with
  | some o =>
    have e := KX a o hk
    rw [ha] at e
    cases e
    have len : vs.toArray.size ≤ sizeLine := by
      rw [List.size_toArray, lens]
      exact hl
    exact core (fun _ => none) (fun _ => .inl rfl) (.inr ⟨_, vs.toArray, _, hk, rfl, rfl, rfl, len, by simpa using rv⟩) (fun b u z => nomatch (show (none : Option HO) = some u from z)) (fun b z => absurd rfl z) fun z => absurd rfl z
  | none =>
    have here : ∀ b : Addr, b = a ∨ b ≠ a := fun b => Decidable.em (b = a)
    refine core (fun b => if b = a then some (.frz { cls := .type "list", data := .seq vs.toArray } (.lst (ns.map V.int))) else none) (fun b => ?_) (.inl (.inr ⟨{ cls := .type "list", data := .seq vs.toArray }, if_pos rfl⟩)) (fun b u z => ?_) (fun b z => ?_) fun _ => hk
    · rcases here b with hb | hb
      · exact .inr ⟨_, _, if_pos hb⟩
      · exact .inl (if_neg hb)
    · rcases here b with hb | hb
      · have z' := (if_pos hb).symm.trans z
        cases z'
        subst hb
        exact ⟨ha, by rw [List.length_map]; exact hl, vs, _, rv, ha⟩
      · have z' := (if_neg hb).symm.trans z
        cases z'
    · rcases here b with hb | hb
      · exact hb
      · exact absurd (if_neg hb) z
theorem walk_ofG {l : PySem.W.OpenLaw} {n k : Nat} {q : Program} {loose : List Str} {XP : (Str → Option Value) → Heap → Prop} {YP : World → Heap → Prop} {d : DefRec} {K : Params → PySem.W.Frag} {sp : World → Sp} {x : Str}
    (hn : l.most = some n) (hn2 : n ≤ sizeLine) (hdf : d.params.defaults = []) (hr : Room k callerA)
    (hY : ∀ (w : World) (h : Heap), YP w h → (K w.params).In h)
    (F : ∀ (w : World) (mg : Str → Option Value) (fa : Addr) (h : Heap), (K w.params).In h → h.Ns mainGlobals mg → mg d.name = some (.ref fa) →
      ∃ fd : FuncData, (∀ (s : Shared) (u : Value), BindsTo s fd ⟨[u], []⟩ [(x, u)]) ∧
        ∀ base : Heap, (K w.params).In base → base.Ns mainGlobals mg → FnG l.prog w (K w.params) mg base k fa fd [x] (sp w))
    (hsp : ∀ (w : World) (H : Hp) (a : Addr) (ns : List Int), ns.length ≤ n → (∀ z ∈ ns, Builtin.Int.intBits z ≤ 1048576) → Only H → SqL (K w.params) H a (ns.map V.int) → sp w [.ref a] H (fun v _ => v = .bl true) fun _ _ _ => False) :
    PySem.W.WalkO q loose XP YP l.row.toRowW d [] (fun f vs => PySem.call f vs) := by
  refine Att.attach_callB hn hdf fun w s₀ s₁ mg mb fa o pm cd doc a vs ns G Y ho hd hcd hmg hobj hints hlen hbits hg => ?_
  have inK := hY w _ Y
  obtain ⟨fd, hb, hF⟩ := F w mg fa _ inK G.T.g hmg
  exact law_callG inK G.T.g G.T.b G.T.builtins G.T.nolimit hg hobj hints (Nat.le_trans hlen hn2) hr hF hb fun H only hS => hsp w H a ns hlen hbits only hS
end L2

set_option Elab.async false
set_option linter.all false
set_option maxRecDepth 100000
set_option maxHeartbeats 8000000
/-! set(l), l a list of ints, as a set that is walked and sorted -/
namespace PySem
namespace HouseX
open PySem.W PySem.Calls PyProof.Rows PySem.HandSPX L2
def bareSet (w : World) : Obj := { cls := .type "set", dict := none, data := .set #[] 0 (.fresh 0 0 (!w.params.followText "set-order")) }
section
variable {P : Program} {w : World} {A : Around} {E : Value → Shared → Prop} {s : Shared}
theorem set_of_list {l : Addr} {items : Array Value} (ns : List Int) {Q : Value → Shared → Prop} (calm : A.handled = none) (hl : s.heap.IsList l items) (hit : IntsAre items.toList ns) (few : ns.length + 1 < scanBound)
    (h : ∀ (h' : Heap) (tk c : Nat), SetR w h' s.heap.objs.size (fun j => decide (j ∈ ns)) c → c ≤ ns.length → (∀ b o, s.heap.get? b = some o → h'.get? b = some o) → Q (.ref s.heap.objs.size) { s with heap := h', toks := tk }) :
    wpAny (model P w) A (call (.type "set") [.ref l]) Q E s := by
  have many : items.size = ns.length := by
    have z := IntsAre.length hit
    rwa [Array.length_toList] at z
  obtain ⟨c, tl, mro⟩ := F.called_set.mro
  have made := F.called_set.made
  have below := F.called_set.sub
  refine wpAny_call (codeAny_of_tree ?_)
  show wpAny _ _ (callAny (.type "set") _) _ _ _
  refine wpAny_pure ⟨Code.quiet_builtin _ (by decide +kernel), codeAny_builtin F.entry_type_call ?_⟩
  rw [Around.under_plain (weight_type_call_type "set" [.ref l] []) rfl]
  have noType := F.called_set.notType
  have create := F.called_set.canCreate
  have looks := F.typeCall_set_1 (.ref l)
  repeat (any_goals (first | assumption | wp_step))
  refine codeAny_mono (L2.code_set_led1 (.ref l) (E := E) (Q₁ := fun obj s₁ => obj = .ref s.heap.objs.size ∧ s₁ = { s with heap := s.heap.push (bareSet w) }) ⟨rfl, rfl⟩) fun r s₁ hr => ?_
  cases r with
  | error e => exact hr
  | ok fl =>
    cases fl with
    | next => exact hr.elim
    | brk => exact hr.elim
    | cont => exact hr.elim
    | ret obj =>
      obtain ⟨rfl, rfl⟩ := hr
      have atS : (s.heap.push (bareSet w)).get? s.heap.objs.size = some (bareSet w) := Heap.get?_push_size _ rfl
      have isS : Shared.TypeIs { s with heap := s.heap.push (bareSet w) } (.ref s.heap.objs.size) "set" := ⟨_, atS, rfl⟩
      have initL := F.called_set.init.lookup
      have initB := F.called_set.init.bind (.ref s.heap.objs.size)
      repeat (any_goals (first | assumption | wp_step))
      refine codeAny_mono (codeAny_call_builtin (R := wants (fun r s₂ => r = .none ∧ ∃ h' tk c, s₂ = { s with heap := h', toks := tk } ∧ SetR w h' s.heap.objs.size (fun j => decide (j ∈ ns)) c ∧ c ≤ ns.length ∧
          (∀ b o, s.heap.get? b = some o → h'.get? b = some o)) E) F.called_set.init.plain F.entry_set_init (check_set_init_1 isS ?_)) fun r₂ s₂ hr₂ => ?_
      · obtain ⟨ol, hol, hcl, nl, hdl⟩ := hl
        obtain ⟨ocls, odict, odata, oslots⟩ := ol
        simp only at hcl hdl
        subst hcl hdl
        have hol' : (s.heap.push (bareSet w)).get? l = some { cls := .type "list", dict := odict, data := .seq items nl, slots := oslots } := Heap.get?_push_of_some _ hol
        have noSet := F.sub_list_set
        have noFrozen := F.sub_list_frozenset
        have noDict : (Value.type "list" == Value.type "dict") = false := by decide
        have isL : (s.heap.push (bareSet w)).IsList l items := ⟨_, hol', rfl, nl, rfl⟩
        unfold Builtin.«set.__init__» noKeywords Builtin.Frozenset.updateFrom
        generalize hPI : pyIter = PI
        wp_walk
        subst hPI
        refine wpAny_pyIter_list isL ?_
        refine wpAny_bind (wpAny_runValue ?_)
        have before : l < s.heap.objs.size := Heap.lt_size hol
        have calm3 : A.in1.in1.in1.handled = none := by simp [calm]
        have apart : l ≠ (s.heap.push (bareSet w)).objs.size := by
          rw [Heap.size_push]
          exact Nat.ne_of_lt (Nat.lt_succ_of_lt before)
        have notIn : s.heap.objs.size ∉ [(s.heap.push (bareSet w)).objs.size, l] := by
          rw [Heap.size_push]
          simp only [List.mem_cons, List.mem_singleton, List.not_mem_nil, or_false, not_or]
          exact ⟨Nat.ne_of_lt (Nat.lt_succ_self _), Nat.ne_of_gt before⟩
        have item : ∀ (i : Nat) (v : Value), items[i]? = some v → ∃ k t, ns[i]? = some k ∧ v = .int k t := by
          intro i v hv
          have hi : i < ns.length := by
            rw [← many]
            exact (Array.getElem?_eq_some_iff.mp hv).1
          obtain ⟨t, e⟩ := PyProof.Rows.IntsAre.int_at hit i v (by rw [Array.getElem?_toList]; exact hv)
          refine ⟨ns[i], t, List.getElem?_eq_getElem hi, ?_⟩
          rw [e, List.getD_eq_getElem?_getD, List.getElem?_eq_getElem hi] <;> rfl
        refine L2.set_update_ints ((Walks.list calm3 _ l apart items).toS) s.heap.objs.size notIn ns many few item (items.size - 0) 0 _ (by omega) (Nat.zero_le _)
          ⟨⟨_, Heap.get?_push_size _ rfl, rfl, rfl⟩, (isL.push _)⟩ ?first ?last
        case first =>
          exact ⟨0, Nat.le_refl 0, L2.setR_new_at (Heap.get?_push_of_some _ atS)⟩
        case last =>
          intro s' c' moved small set'
          obtain ⟨h', g2, d', tk', os'⟩ := s'
          obtain rfl : g2 = s.gens := moved.gens
          obtain rfl : d' = s.drawn := moved.drawn
          obtain rfl : os' = s.os := moved.os
          show wpAny _ _ _ _ _ _
          refine wpAny_pure ?_
          show wpAny _ _ (ret Value.none) _ _ _
          rw [many] at small
          refine wpAny_pure ⟨rfl, h', tk', c', rfl, set', small, fun b o e => ?_⟩
          have old : b < s.heap.objs.size := Heap.lt_size e
          have ne1 : b ≠ s.heap.objs.size := Nat.ne_of_lt old
          have ne2 : b ≠ (s.heap.push (bareSet w)).objs.size := by
            rw [Heap.size_push]
            exact Nat.ne_of_lt (Nat.lt_succ_of_lt old)
          refine moved.heap b o ?_ (Heap.get?_push_of_some _ (Heap.get?_push_of_some _ e))
          simp only [List.mem_cons, List.mem_singleton, List.not_mem_nil, or_false, not_or]
          exact ⟨ne1, ne2⟩
      · cases r₂ with
        | error e => exact hr₂
        | ok fl₂ =>
          cases fl₂ with
          | next => exact hr₂.elim
          | brk => exact hr₂.elim
          | cont => exact hr₂.elim
          | ret r =>
            obtain ⟨rfl, h', tk, c', rfl, set', small, keep⟩ := hr₂
            repeat (any_goals (first | assumption | wp_step))
            exact h _ _ _ set' small keep
end
end HouseX
end PySem
namespace L2
open PySem PySem.Spec PyProof.Rows PySem.HouseX
section
variable {X : Cx}
/-- set(l) of a list of ints -/
def rSetOfL (K : PySem.W.Frag) (w : World) : List V → Hp → VK → Prop := fun xs H Q => ∃ (l : Addr) (ns : List Int), xs = [.ref l] ∧ SqL K H l (ns.map V.int) ∧ ns.length ≤ 50 ∧
  ∀ p c, H p = none → c ≤ ns.length → Q (.ref p) (upd H p (SetO w p (fun j => decide (j ∈ ns)) c))
theorem cr_setOfL (hc : X.calm = true) : CallR X (.type "set") (rSetOfL X.K X.w) := by
  intro pins s σ H xs us Q I r h
  obtain ⟨l, ns, rfl, hs, few, q⟩ := h
  cases r with
  | cons rx rr =>
    cases rr
    cases rx
    obtain ⟨its, rv, lt, hlen⟩ := I.list hs
    have hi : IntsAre its.toArray.toList ns := ints_of_vals rv
    obtain ⟨ol, n, ho, hcl, hdn, hdt⟩ := lt
    refine set_of_list ns (I.ok.hd hc) ?_ hi (by unfold scanBound; omega) fun h' tk c R small keep => ?_
    · exact ⟨ol, ho, hcl, n, hdt⟩
    · exact ⟨.ref _, _, I.laid (t' := tk) keep (Nat.le_refl _) (setO_new R), rfl, q _ c (I.hok.fresh (Nat.le_refl _)) small⟩
end
end L2

set_option Elab.async false
set_option linter.all false
set_option maxRecDepth 100000
set_option maxHeartbeats 8000000
namespace K0
open PySem L2 PySem.HouseX
def names : List Str := ["HouseError", "InvalidName", "DoubleName", "UnknownName", "InvalidModulus", "InvalidNumber", "InvalidPair", "InvalidState", "InvalidForm", "InvalidBox", "InvalidCell", "InvalidWord", "TooShort", "InvalidRests", "StillUsed", "Locked", "Clash", "NothingToUndo", "Unreadable"]
def nm (i : Nat) : Str := names.getD i ""
/-- the classes: where they stand (cl), what they say -/
structure Fam (K : PySem.W.Frag) (mg : Str → Option Value) (cl : Nat → Addr) (fI : Addr) : Prop where
  err : ∀ i < 19, ErrTxt K (cl i) fI (if i = 0 then PySem.HandSPX.veTail else .ref (cl 0) :: PySem.HandSPX.veTail)
  ask : ∀ i < 19, AskTxt K (cl i)
  glob : ∀ i < 19, mg (nm i) = some (.ref (cl i))
  inj : ∀ i < 19, ∀ j < 19, cl i = cl j → i = j
def spMade (cl : Nat → Addr) (most : Nat) : Sp := fun vs H Q _ => ∃ (r : Nat) (v : V) (named : Bool), vs = [.int r, v, .bl named] ∧ r < most ∧
  ∀ e d, H e = none → H d = none → e ≠ d → Q (.ref e) (upd (upd H d (.xd [(("value" : Str), v)])) e (ErrO (cl r) d e))
theorem same_int {r j : Nat} (h : decide (V.int (r : Int) = V.int (j : Int)) = true) : r = j := by
  have z := of_decide_eq_true h
  injection z with z
  omega
theorem not_int {r j : Nat} (h : ¬ decide (V.int (r : Int) = V.int (j : Int)) = true) : r ≠ j := fun e => h (by rw [e]; exact decide_eq_true rfl)
section
variable {P : Program} {w : World} {K : PySem.W.Frag} {mg : Str → Option Value} {base : Heap} {cl : Nat → Addr} {fI : Addr}
theorem scFirst : FnScope ["_law_rank", "_law_thing", "_law_is_named"] ["_law_rank", "_law_thing", "_law_is_named"] (defScope sFirst) := ⟨rfl, rfl, rfl, by decide +kernel, rfl, by decide +kernel, by decide +kernel⟩
theorem ok_first {f : Addr} {fd : FuncData} (F : Fun K "_law_hd_first_made" "_law_hd_first_made" sFirst f fd) (T : Fam K mg cl fI) : FnOk P w K mg base CX0 2 f fd ["_law_rank", "_law_thing", "_law_is_named"] (spMade cl 10) := by
  refine F.ok scFirst (fun vs H Q E h => ?_) (fun cdv A outer s H vs Q E hr h => ?_)
  · obtain ⟨r, v, b, rfl, _⟩ := h
    rfl
  · obtain ⟨r, v, b, rfl, hr0, k⟩ := h
    have hr1 : Room (0 + 1) _ := hr
    refine ⟨_,
    (pss_cons (ps_if (pt_cmpR op_eq (pv 0) pe_int (nomark _)) (pss_one (ps_ret (pe_ifExp (pt_val (pv 2)) (pe_errK (T.err 0 (by decide)) (T.glob 0 (by decide)) hr1 (pk_cons (pv 1) pk_nil) rfl) (pe_err (T.err 0 (by decide)) (T.glob 0 (by decide)) hr1 (pa_cons (pv 1) pa_nil) rfl)))) pss_nil)
    (pss_cons (ps_if (pt_cmpR op_eq (pv 0) pe_int (nomark _)) (pss_one (ps_ret (pe_ifExp (pt_val (pv 2)) (pe_errK (T.err 1 (by decide)) (T.glob 1 (by decide)) hr1 (pk_cons (pv 1) pk_nil) rfl) (pe_err (T.err 1 (by decide)) (T.glob 1 (by decide)) hr1 (pa_cons (pv 1) pa_nil) rfl)))) pss_nil)
    (pss_cons (ps_if (pt_cmpR op_eq (pv 0) pe_int (nomark _)) (pss_one (ps_ret (pe_ifExp (pt_val (pv 2)) (pe_errK (T.err 2 (by decide)) (T.glob 2 (by decide)) hr1 (pk_cons (pv 1) pk_nil) rfl) (pe_err (T.err 2 (by decide)) (T.glob 2 (by decide)) hr1 (pa_cons (pv 1) pa_nil) rfl)))) pss_nil)
    (pss_cons (ps_if (pt_cmpR op_eq (pv 0) pe_int (nomark _)) (pss_one (ps_ret (pe_ifExp (pt_val (pv 2)) (pe_errK (T.err 3 (by decide)) (T.glob 3 (by decide)) hr1 (pk_cons (pv 1) pk_nil) rfl) (pe_err (T.err 3 (by decide)) (T.glob 3 (by decide)) hr1 (pa_cons (pv 1) pa_nil) rfl)))) pss_nil)
    (pss_cons (ps_if (pt_cmpR op_eq (pv 0) pe_int (nomark _)) (pss_one (ps_ret (pe_ifExp (pt_val (pv 2)) (pe_errK (T.err 4 (by decide)) (T.glob 4 (by decide)) hr1 (pk_cons (pv 1) pk_nil) rfl) (pe_err (T.err 4 (by decide)) (T.glob 4 (by decide)) hr1 (pa_cons (pv 1) pa_nil) rfl)))) pss_nil)
    (pss_cons (ps_if (pt_cmpR op_eq (pv 0) pe_int (nomark _)) (pss_one (ps_ret (pe_ifExp (pt_val (pv 2)) (pe_errK (T.err 5 (by decide)) (T.glob 5 (by decide)) hr1 (pk_cons (pv 1) pk_nil) rfl) (pe_err (T.err 5 (by decide)) (T.glob 5 (by decide)) hr1 (pa_cons (pv 1) pa_nil) rfl)))) pss_nil)
    (pss_cons (ps_if (pt_cmpR op_eq (pv 0) pe_int (nomark _)) (pss_one (ps_ret (pe_ifExp (pt_val (pv 2)) (pe_errK (T.err 6 (by decide)) (T.glob 6 (by decide)) hr1 (pk_cons (pv 1) pk_nil) rfl) (pe_err (T.err 6 (by decide)) (T.glob 6 (by decide)) hr1 (pa_cons (pv 1) pa_nil) rfl)))) pss_nil)
    (pss_cons (ps_if (pt_cmpR op_eq (pv 0) pe_int (nomark _)) (pss_one (ps_ret (pe_ifExp (pt_val (pv 2)) (pe_errK (T.err 7 (by decide)) (T.glob 7 (by decide)) hr1 (pk_cons (pv 1) pk_nil) rfl) (pe_err (T.err 7 (by decide)) (T.glob 7 (by decide)) hr1 (pa_cons (pv 1) pa_nil) rfl)))) pss_nil)
    (pss_cons (ps_if (pt_cmpR op_eq (pv 0) pe_int (nomark _)) (pss_one (ps_ret (pe_ifExp (pt_val (pv 2)) (pe_errK (T.err 8 (by decide)) (T.glob 8 (by decide)) hr1 (pk_cons (pv 1) pk_nil) rfl) (pe_err (T.err 8 (by decide)) (T.glob 8 (by decide)) hr1 (pa_cons (pv 1) pa_nil) rfl)))) pss_nil)
    (pss_cons (ps_if (pt_cmpR op_eq (pv 0) pe_int (nomark _)) (pss_one (ps_ret (pe_ifExp (pt_val (pv 2)) (pe_errK (T.err 9 (by decide)) (T.glob 9 (by decide)) hr1 (pk_cons (pv 1) pk_nil) rfl) (pe_err (T.err 9 (by decide)) (T.glob 9 (by decide)) hr1 (pa_cons (pv 1) pa_nil) rfl)))) pss_nil)
    (pss_one (ps_ret pe_non)))))))))))), ?_⟩
    refine ⟨_, rfl, rfl, _, rfl, ite2 (fun h => ?_) (fun h0 => ?_)⟩
    · have e : r = 0 := same_int h
      subst e
      refine ⟨_, rfl, _, rfl, ?_⟩
      cases b with
      | true => exact iteT ⟨_, rfl, v, rfl, fun e d x y z => k e d x y z⟩
      | false => exact iteF ⟨_, rfl, v, rfl, fun e d x y z => k e d x y z⟩
    refine ⟨_, rfl, rfl, _, rfl, ite2 (fun h => ?_) (fun h1 => ?_)⟩
    · have e : r = 1 := same_int h
      subst e
      refine ⟨_, rfl, _, rfl, ?_⟩
      cases b with
      | true => exact iteT ⟨_, rfl, v, rfl, fun e d x y z => k e d x y z⟩
      | false => exact iteF ⟨_, rfl, v, rfl, fun e d x y z => k e d x y z⟩
    refine ⟨_, rfl, rfl, _, rfl, ite2 (fun h => ?_) (fun h2 => ?_)⟩
    · have e : r = 2 := same_int h
      subst e
      refine ⟨_, rfl, _, rfl, ?_⟩
      cases b with
      | true => exact iteT ⟨_, rfl, v, rfl, fun e d x y z => k e d x y z⟩
      | false => exact iteF ⟨_, rfl, v, rfl, fun e d x y z => k e d x y z⟩
    refine ⟨_, rfl, rfl, _, rfl, ite2 (fun h => ?_) (fun h3 => ?_)⟩
    · have e : r = 3 := same_int h
      subst e
      refine ⟨_, rfl, _, rfl, ?_⟩
      cases b with
      | true => exact iteT ⟨_, rfl, v, rfl, fun e d x y z => k e d x y z⟩
      | false => exact iteF ⟨_, rfl, v, rfl, fun e d x y z => k e d x y z⟩
    refine ⟨_, rfl, rfl, _, rfl, ite2 (fun h => ?_) (fun h4 => ?_)⟩
    · have e : r = 4 := same_int h
      subst e
      refine ⟨_, rfl, _, rfl, ?_⟩
      cases b with
      | true => exact iteT ⟨_, rfl, v, rfl, fun e d x y z => k e d x y z⟩
      | false => exact iteF ⟨_, rfl, v, rfl, fun e d x y z => k e d x y z⟩
    refine ⟨_, rfl, rfl, _, rfl, ite2 (fun h => ?_) (fun h5 => ?_)⟩
    · have e : r = 5 := same_int h
      subst e
      refine ⟨_, rfl, _, rfl, ?_⟩
      cases b with
      | true => exact iteT ⟨_, rfl, v, rfl, fun e d x y z => k e d x y z⟩
      | false => exact iteF ⟨_, rfl, v, rfl, fun e d x y z => k e d x y z⟩
    refine ⟨_, rfl, rfl, _, rfl, ite2 (fun h => ?_) (fun h6 => ?_)⟩
    · have e : r = 6 := same_int h
      subst e
      refine ⟨_, rfl, _, rfl, ?_⟩
      cases b with
      | true => exact iteT ⟨_, rfl, v, rfl, fun e d x y z => k e d x y z⟩
      | false => exact iteF ⟨_, rfl, v, rfl, fun e d x y z => k e d x y z⟩
    refine ⟨_, rfl, rfl, _, rfl, ite2 (fun h => ?_) (fun h7 => ?_)⟩
    · have e : r = 7 := same_int h
      subst e
      refine ⟨_, rfl, _, rfl, ?_⟩
      cases b with
      | true => exact iteT ⟨_, rfl, v, rfl, fun e d x y z => k e d x y z⟩
      | false => exact iteF ⟨_, rfl, v, rfl, fun e d x y z => k e d x y z⟩
    refine ⟨_, rfl, rfl, _, rfl, ite2 (fun h => ?_) (fun h8 => ?_)⟩
    · have e : r = 8 := same_int h
      subst e
      refine ⟨_, rfl, _, rfl, ?_⟩
      cases b with
      | true => exact iteT ⟨_, rfl, v, rfl, fun e d x y z => k e d x y z⟩
      | false => exact iteF ⟨_, rfl, v, rfl, fun e d x y z => k e d x y z⟩
    refine ⟨_, rfl, rfl, _, rfl, ite2 (fun h => ?_) (fun h9 => ?_)⟩
    · have e : r = 9 := same_int h
      subst e
      refine ⟨_, rfl, _, rfl, ?_⟩
      cases b with
      | true => exact iteT ⟨_, rfl, v, rfl, fun e d x y z => k e d x y z⟩
      | false => exact iteF ⟨_, rfl, v, rfl, fun e d x y z => k e d x y z⟩
    have n0 : r ≠ 0 := not_int h0
    have n1 : r ≠ 1 := not_int h1
    have n2 : r ≠ 2 := not_int h2
    have n3 : r ≠ 3 := not_int h3
    have n4 : r ≠ 4 := not_int h4
    have n5 : r ≠ 5 := not_int h5
    have n6 : r ≠ 6 := not_int h6
    have n7 : r ≠ 7 := not_int h7
    have n8 : r ≠ 8 := not_int h8
    have n9 : r ≠ 9 := not_int h9
    omega
theorem scMade : FnScope ["_law_rank", "_law_thing", "_law_is_named"] ["_law_rank", "_law_thing", "_law_is_named"] (defScope sMade) := ⟨rfl, rfl, rfl, by decide +kernel, rfl, by decide +kernel, by decide +kernel⟩
theorem ok_made {f fF : Addr} {fd fdF : FuncData} (F : Fun K "_law_hd_made_error" "_law_hd_made_error" sMade f fd) (T : Fam K mg cl fI) (FF : Fun K "_law_hd_first_made" "_law_hd_first_made" sFirst fF fdF) (bF : Binds K fdF ["_law_rank", "_law_thing", "_law_is_named"] [])
    (gF : mg "_law_hd_first_made" = some (.ref fF)) : FnOk P w K mg base CX0 3 f fd ["_law_rank", "_law_thing", "_law_is_named"] (spMade cl 19) := by
  have GF : FnOk P w K mg base CX0 2 fF fdF ["_law_rank", "_law_thing", "_law_is_named"] (spMade cl 10) := ok_first FF T
  refine F.ok scMade (fun vs H Q E h => ?_) (fun cdv A outer s H vs Q E hr h => ?_)
  · obtain ⟨r, v, b, rfl, _⟩ := h
    rfl
  · obtain ⟨r, v, b, rfl, hr0, k⟩ := h
    have hr1 : Room (0 + 1) _ := hr.mono (by decide)
    refine ⟨_,
    (pss_cons (ps_if (pt_cmpR op_eq (pv 0) pe_int (nomark _)) (pss_one (ps_ret (pe_ifExp (pt_val (pv 2)) (pe_errK (T.err 10 (by decide)) (T.glob 10 (by decide)) hr1 (pk_cons (pv 1) pk_nil) rfl) (pe_err (T.err 10 (by decide)) (T.glob 10 (by decide)) hr1 (pa_cons (pv 1) pa_nil) rfl)))) pss_nil)
    (pss_cons (ps_if (pt_cmpR op_eq (pv 0) pe_int (nomark _)) (pss_one (ps_ret (pe_ifExp (pt_val (pv 2)) (pe_errK (T.err 11 (by decide)) (T.glob 11 (by decide)) hr1 (pk_cons (pv 1) pk_nil) rfl) (pe_err (T.err 11 (by decide)) (T.glob 11 (by decide)) hr1 (pa_cons (pv 1) pa_nil) rfl)))) pss_nil)
    (pss_cons (ps_if (pt_cmpR op_eq (pv 0) pe_int (nomark _)) (pss_one (ps_ret (pe_ifExp (pt_val (pv 2)) (pe_errK (T.err 12 (by decide)) (T.glob 12 (by decide)) hr1 (pk_cons (pv 1) pk_nil) rfl) (pe_err (T.err 12 (by decide)) (T.glob 12 (by decide)) hr1 (pa_cons (pv 1) pa_nil) rfl)))) pss_nil)
    (pss_cons (ps_if (pt_cmpR op_eq (pv 0) pe_int (nomark _)) (pss_one (ps_ret (pe_ifExp (pt_val (pv 2)) (pe_errK (T.err 13 (by decide)) (T.glob 13 (by decide)) hr1 (pk_cons (pv 1) pk_nil) rfl) (pe_err (T.err 13 (by decide)) (T.glob 13 (by decide)) hr1 (pa_cons (pv 1) pa_nil) rfl)))) pss_nil)
    (pss_cons (ps_if (pt_cmpR op_eq (pv 0) pe_int (nomark _)) (pss_one (ps_ret (pe_ifExp (pt_val (pv 2)) (pe_errK (T.err 14 (by decide)) (T.glob 14 (by decide)) hr1 (pk_cons (pv 1) pk_nil) rfl) (pe_err (T.err 14 (by decide)) (T.glob 14 (by decide)) hr1 (pa_cons (pv 1) pa_nil) rfl)))) pss_nil)
    (pss_cons (ps_if (pt_cmpR op_eq (pv 0) pe_int (nomark _)) (pss_one (ps_ret (pe_ifExp (pt_val (pv 2)) (pe_errK (T.err 15 (by decide)) (T.glob 15 (by decide)) hr1 (pk_cons (pv 1) pk_nil) rfl) (pe_err (T.err 15 (by decide)) (T.glob 15 (by decide)) hr1 (pa_cons (pv 1) pa_nil) rfl)))) pss_nil)
    (pss_cons (ps_if (pt_cmpR op_eq (pv 0) pe_int (nomark _)) (pss_one (ps_ret (pe_ifExp (pt_val (pv 2)) (pe_errK (T.err 16 (by decide)) (T.glob 16 (by decide)) hr1 (pk_cons (pv 1) pk_nil) rfl) (pe_err (T.err 16 (by decide)) (T.glob 16 (by decide)) hr1 (pa_cons (pv 1) pa_nil) rfl)))) pss_nil)
    (pss_cons (ps_if (pt_cmpR op_eq (pv 0) pe_int (nomark _)) (pss_one (ps_ret (pe_ifExp (pt_val (pv 2)) (pe_errK (T.err 17 (by decide)) (T.glob 17 (by decide)) hr1 (pk_cons (pv 1) pk_nil) rfl) (pe_err (T.err 17 (by decide)) (T.glob 17 (by decide)) hr1 (pa_cons (pv 1) pa_nil) rfl)))) pss_nil)
    (pss_cons (ps_if (pt_cmpR op_eq (pv 0) pe_int (nomark _)) (pss_one (ps_ret (pe_ifExp (pt_val (pv 2)) (pe_errK (T.err 18 (by decide)) (T.glob 18 (by decide)) hr1 (pk_cons (pv 1) pk_nil) rfl) (pe_err (T.err 18 (by decide)) (T.glob 18 (by decide)) hr1 (pa_cons (pv 1) pa_nil) rfl)))) pss_nil)
    (pss_one (ps_ret (pe_call GF hr rfl gF FF.kp bF .nil pass0 (pa_cons (pv 0) (pa_cons (pv 1) (pa_cons (pv 2) pa_nil))))))))))))))), ?_⟩
    refine ⟨_, rfl, rfl, _, rfl, ite2 (fun h => ?_) (fun h10 => ?_)⟩
    · have e : r = 10 := same_int h
      subst e
      refine ⟨_, rfl, _, rfl, ?_⟩
      cases b with
      | true => exact iteT ⟨_, rfl, v, rfl, fun e d x y z => k e d x y z⟩
      | false => exact iteF ⟨_, rfl, v, rfl, fun e d x y z => k e d x y z⟩
    refine ⟨_, rfl, rfl, _, rfl, ite2 (fun h => ?_) (fun h11 => ?_)⟩
    · have e : r = 11 := same_int h
      subst e
      refine ⟨_, rfl, _, rfl, ?_⟩
      cases b with
      | true => exact iteT ⟨_, rfl, v, rfl, fun e d x y z => k e d x y z⟩
      | false => exact iteF ⟨_, rfl, v, rfl, fun e d x y z => k e d x y z⟩
    refine ⟨_, rfl, rfl, _, rfl, ite2 (fun h => ?_) (fun h12 => ?_)⟩
    · have e : r = 12 := same_int h
      subst e
      refine ⟨_, rfl, _, rfl, ?_⟩
      cases b with
      | true => exact iteT ⟨_, rfl, v, rfl, fun e d x y z => k e d x y z⟩
      | false => exact iteF ⟨_, rfl, v, rfl, fun e d x y z => k e d x y z⟩
    refine ⟨_, rfl, rfl, _, rfl, ite2 (fun h => ?_) (fun h13 => ?_)⟩
    · have e : r = 13 := same_int h
      subst e
      refine ⟨_, rfl, _, rfl, ?_⟩
      cases b with
      | true => exact iteT ⟨_, rfl, v, rfl, fun e d x y z => k e d x y z⟩
      | false => exact iteF ⟨_, rfl, v, rfl, fun e d x y z => k e d x y z⟩
    refine ⟨_, rfl, rfl, _, rfl, ite2 (fun h => ?_) (fun h14 => ?_)⟩
    · have e : r = 14 := same_int h
      subst e
      refine ⟨_, rfl, _, rfl, ?_⟩
      cases b with
      | true => exact iteT ⟨_, rfl, v, rfl, fun e d x y z => k e d x y z⟩
      | false => exact iteF ⟨_, rfl, v, rfl, fun e d x y z => k e d x y z⟩
    refine ⟨_, rfl, rfl, _, rfl, ite2 (fun h => ?_) (fun h15 => ?_)⟩
    · have e : r = 15 := same_int h
      subst e
      refine ⟨_, rfl, _, rfl, ?_⟩
      cases b with
      | true => exact iteT ⟨_, rfl, v, rfl, fun e d x y z => k e d x y z⟩
      | false => exact iteF ⟨_, rfl, v, rfl, fun e d x y z => k e d x y z⟩
    refine ⟨_, rfl, rfl, _, rfl, ite2 (fun h => ?_) (fun h16 => ?_)⟩
    · have e : r = 16 := same_int h
      subst e
      refine ⟨_, rfl, _, rfl, ?_⟩
      cases b with
      | true => exact iteT ⟨_, rfl, v, rfl, fun e d x y z => k e d x y z⟩
      | false => exact iteF ⟨_, rfl, v, rfl, fun e d x y z => k e d x y z⟩
    refine ⟨_, rfl, rfl, _, rfl, ite2 (fun h => ?_) (fun h17 => ?_)⟩
    · have e : r = 17 := same_int h
      subst e
      refine ⟨_, rfl, _, rfl, ?_⟩
      cases b with
      | true => exact iteT ⟨_, rfl, v, rfl, fun e d x y z => k e d x y z⟩
      | false => exact iteF ⟨_, rfl, v, rfl, fun e d x y z => k e d x y z⟩
    refine ⟨_, rfl, rfl, _, rfl, ite2 (fun h => ?_) (fun h18 => ?_)⟩
    · have e : r = 18 := same_int h
      subst e
      refine ⟨_, rfl, _, rfl, ?_⟩
      cases b with
      | true => exact iteT ⟨_, rfl, v, rfl, fun e d x y z => k e d x y z⟩
      | false => exact iteF ⟨_, rfl, v, rfl, fun e d x y z => k e d x y z⟩
    have n10 : r ≠ 10 := not_int h10
    have n11 : r ≠ 11 := not_int h11
    have n12 : r ≠ 12 := not_int h12
    have n13 : r ≠ 13 := not_int h13
    have n14 : r ≠ 14 := not_int h14
    have n15 : r ≠ 15 := not_int h15
    have n16 : r ≠ 16 := not_int h16
    have n17 : r ≠ 17 := not_int h17
    have n18 : r ≠ 18 := not_int h18
    exact ⟨_, rfl, _, rfl, _, rfl, r, v, b, rfl, by omega, k⟩
end
end K0

set_option Elab.async false
set_option linter.all false
set_option maxRecDepth 100000
set_option maxHeartbeats 8000000
namespace K0
open PySem L2 PySem.HouseX
def kb (r i : Nat) : Bool := decide (i = r) || decide (i = 0)
section
variable {P : Program} {w : World} {K : PySem.W.Frag} {mg : Str → Option Value} {base : Heap} {cl : Nat → Addr} {fI : Addr}
theorem Fam.kit (T : Fam K mg cl fI) {r i : Nat} (hr : r < 19) (hi : i < 19) : PySem.W.kitOne K (.ref (cl r)) (.ref (cl i)) = some (kb r i) := by
  rw [(T.err r hr).kit (T.err i hi), List.contains_cons]
  have e1 : (Value.ref (cl i) == Value.ref (cl r)) = decide (i = r) := by
    by_cases e : i = r
    · rw [e]
      simp
    · rw [decide_eq_false e]
      refine beq_eq_false_iff_ne.mpr fun q => e (T.inj i hi r hr (Value.ref.inj q))
  have tail : PySem.HandSPX.veTail.contains (Value.ref (cl i)) = false := rfl
  rw [e1]
  unfold kb
  by_cases z : r = 0
  · rw [if_pos z, tail]
    subst z
    cases h : decide (i = 0) <;> rfl
  · rw [if_neg z, List.contains_cons, tail, Bool.or_false]
    have e2 : (Value.ref (cl i) == Value.ref (cl 0)) = decide (i = 0) := by
      by_cases e : i = 0
      · rw [e]
        simp
      · rw [decide_eq_false e]
        exact beq_eq_false_iff_ne.mpr fun q => e (T.inj i hi 0 (by decide) (Value.ref.inj q))
    rw [e2]
theorem Fam.obj (T : Fam K mg cl fI) {r : Nat} (hr : r < 19) : PySem.W.mroIn K (cl r) (.type "object") = some true := by
  have h := (T.err r hr).sub (.type "object")
  have e : PySem.W.mroIn K (cl r) (.type "object") = PySem.W.subIn K (.ref (cl r)) (.type "object") := rfl
  rw [e, h]
  by_cases z : r = 0
  · rw [if_pos z]
    rfl
  · rw [if_neg z]
    rfl
/-- an error of the r-th class stands at a, its dict at d; it holds v -/
def ErrAt (cl : Nat → Addr) (H : Hp) (a d : Addr) (r : Nat) (v : V) : Prop := H a = some (ErrO (cl r) d a) ∧ H d = some (.xd [(("value" : Str), v)])
theorem Fam.isErr (T : Fam K mg cl fI) {H : Hp} {a d : Addr} {r i : Nat} {v : V} {Q : VK} (hr : r < 19) (hi : i < 19) (h : ErrAt cl H a d r v) (q : Q (.bl (kb r i)) H) : rIsErr K [.ref a, .ref (cl i)] H Q :=
  ⟨a, cl r, d, fI, _, v, .ref (cl i), .ref (cl i), kb r i, rfl, T.err r hr, T.ask r hr, T.obj hr, h.1, h.2, .own _, T.kit hr hi, q⟩
theorem ErrAt.more {H : Hp} {a d p : Addr} {r : Nat} {v : V} {o : HO} (h : ErrAt cl H a d r v) (hp : H p = none) : ErrAt cl (upd H p o) a d r v :=
  ⟨(upd_ne (ne_of_none h.1 hp)).trans h.1, (upd_ne (ne_of_none h.2 hp)).trans h.2⟩
theorem same_new {H : Hp} {p : Addr} {o : HO} (hp : H p = none) : Same H (upd H p o) := fun b u e => by
  rw [upd_ne (ne_of_none e hp)]
  exact e
theorem at_new {H : Hp} {p : Addr} {o : HO} (_ : H p = none) : upd H p o p = some o := upd_same
theorem keep_new {H : Hp} {p q : Addr} {o u : HO} (h : H p = some o) (hq : H q = none) : upd H q u p = some o := (upd_ne (ne_of_none h hq)).trans h
/-- what of_kinds tells -/
def kindsUpTo (r n : Nat) : List Int := ((List.range n).filter (kb r)).map fun i : Nat => (i : Int)
def allB (r : Nat) : List V := (List.range 19).map fun i => V.bl (kb r i)
theorem atB (r : Nat) {i : Nat} (h : i < 19) : atI (allB r) (0 + (i : Int)) = some (V.bl (kb r i)) := by
  rw [Int.zero_add]
  exact atI_nat (by unfold allB; rw [List.getElem?_map, List.getElem?_range h]; rfl)
theorem kinds_more (r i : Nat) : kindsUpTo r (i + 1) = if kb r i = true then kindsUpTo r i ++ [(i : Int)] else kindsUpTo r i := by
  unfold kindsUpTo
  rw [List.range_succ, List.filter_append, List.map_append]
  cases h : kb r i <;> simp [h]
theorem kinds_len (r i : Nat) : (kindsUpTo r i).length ≤ i := by
  unfold kindsUpTo
  rw [List.length_map]
  exact Nat.le_trans (List.length_filter_le ..) (by simp)
def spKinds (cl : Nat → Addr) : Sp := fun vs H Q _ => ∃ (a d : Addr) (r : Nat) (v : V), vs = [.ref a] ∧ ErrAt cl H a d r v ∧ r < 19 ∧
  ∀ H' p, H p = none → Same H H' → H' p = some (.lst ((kindsUpTo r 19).map V.int)) → Q (.ref p) H'
theorem scKinds : FnScope ["_law_caught", "_law_found", "_law_rank"] ["_law_caught"] (defScope sKinds) := ⟨rfl, rfl, rfl, by decide +kernel, rfl, by decide +kernel, by decide +kernel⟩
theorem ok_kinds {f : Addr} {fd : FuncData} (F : Fun K "_law_hd_of_kinds" "_law_hd_of_kinds" sKinds f fd) (T : Fam K mg cl fI) (isi : mg "isinstance" = none) (rng : mg "range" = none) : FnOk P w K mg base CX0 1 f fd ["_law_caught"] (spKinds cl) := by
  refine F.ok scKinds (fun vs H Q E h => ?_) (fun cdv A outer s H vs Q E hr h => ?_)
  · obtain ⟨a, d, r, v, rfl, _⟩ := h
    rfl
  · obtain ⟨a, d, r, v, rfl, h0, hr0, k⟩ := h
    refine ⟨_,
    (pss_cons (ps_set (i := 1) scKinds.nd rfl (Or.inr rfl) (pe_lst (pa_cons (pe_callB call_isErr (by rfl) isi (by decide +kernel) (pa_cons (pv 0) (pa_cons (pe_glob (v := .ref (cl 0)) rfl (T.glob 0 (by decide)) rfl) pa_nil)))
      (pa_cons (pe_callB call_isErr (by rfl) isi (by decide +kernel) (pa_cons (pv 0) (pa_cons (pe_glob (v := .ref (cl 1)) rfl (T.glob 1 (by decide)) rfl) pa_nil)))
      (pa_cons (pe_callB call_isErr (by rfl) isi (by decide +kernel) (pa_cons (pv 0) (pa_cons (pe_glob (v := .ref (cl 2)) rfl (T.glob 2 (by decide)) rfl) pa_nil)))
      pa_nil)))))
    (pss_cons (ps_set (i := 1) scKinds.nd rfl (Or.inr rfl) (pe_op op_cat (pv 1) (pe_lst (pa_cons (pe_callB call_isErr (by rfl) isi (by decide +kernel) (pa_cons (pv 0) (pa_cons (pe_glob (v := .ref (cl 3)) rfl (T.glob 3 (by decide)) rfl) pa_nil)))
      (pa_cons (pe_callB call_isErr (by rfl) isi (by decide +kernel) (pa_cons (pv 0) (pa_cons (pe_glob (v := .ref (cl 4)) rfl (T.glob 4 (by decide)) rfl) pa_nil)))
      (pa_cons (pe_callB call_isErr (by rfl) isi (by decide +kernel) (pa_cons (pv 0) (pa_cons (pe_glob (v := .ref (cl 5)) rfl (T.glob 5 (by decide)) rfl) pa_nil)))
      pa_nil))))))
    (pss_cons (ps_set (i := 1) scKinds.nd rfl (Or.inr rfl) (pe_op op_cat (pv 1) (pe_lst (pa_cons (pe_callB call_isErr (by rfl) isi (by decide +kernel) (pa_cons (pv 0) (pa_cons (pe_glob (v := .ref (cl 6)) rfl (T.glob 6 (by decide)) rfl) pa_nil)))
      (pa_cons (pe_callB call_isErr (by rfl) isi (by decide +kernel) (pa_cons (pv 0) (pa_cons (pe_glob (v := .ref (cl 7)) rfl (T.glob 7 (by decide)) rfl) pa_nil)))
      (pa_cons (pe_callB call_isErr (by rfl) isi (by decide +kernel) (pa_cons (pv 0) (pa_cons (pe_glob (v := .ref (cl 8)) rfl (T.glob 8 (by decide)) rfl) pa_nil)))
      pa_nil))))))
    (pss_cons (ps_set (i := 1) scKinds.nd rfl (Or.inr rfl) (pe_op op_cat (pv 1) (pe_lst (pa_cons (pe_callB call_isErr (by rfl) isi (by decide +kernel) (pa_cons (pv 0) (pa_cons (pe_glob (v := .ref (cl 9)) rfl (T.glob 9 (by decide)) rfl) pa_nil)))
      (pa_cons (pe_callB call_isErr (by rfl) isi (by decide +kernel) (pa_cons (pv 0) (pa_cons (pe_glob (v := .ref (cl 10)) rfl (T.glob 10 (by decide)) rfl) pa_nil)))
      (pa_cons (pe_callB call_isErr (by rfl) isi (by decide +kernel) (pa_cons (pv 0) (pa_cons (pe_glob (v := .ref (cl 11)) rfl (T.glob 11 (by decide)) rfl) pa_nil)))
      pa_nil))))))
    (pss_cons (ps_set (i := 1) scKinds.nd rfl (Or.inr rfl) (pe_op op_cat (pv 1) (pe_lst (pa_cons (pe_callB call_isErr (by rfl) isi (by decide +kernel) (pa_cons (pv 0) (pa_cons (pe_glob (v := .ref (cl 12)) rfl (T.glob 12 (by decide)) rfl) pa_nil)))
      (pa_cons (pe_callB call_isErr (by rfl) isi (by decide +kernel) (pa_cons (pv 0) (pa_cons (pe_glob (v := .ref (cl 13)) rfl (T.glob 13 (by decide)) rfl) pa_nil)))
      (pa_cons (pe_callB call_isErr (by rfl) isi (by decide +kernel) (pa_cons (pv 0) (pa_cons (pe_glob (v := .ref (cl 14)) rfl (T.glob 14 (by decide)) rfl) pa_nil)))
      pa_nil))))))
    (pss_cons (ps_set (i := 1) scKinds.nd rfl (Or.inr rfl) (pe_op op_cat (pv 1) (pe_lst (pa_cons (pe_callB call_isErr (by rfl) isi (by decide +kernel) (pa_cons (pv 0) (pa_cons (pe_glob (v := .ref (cl 15)) rfl (T.glob 15 (by decide)) rfl) pa_nil)))
      (pa_cons (pe_callB call_isErr (by rfl) isi (by decide +kernel) (pa_cons (pv 0) (pa_cons (pe_glob (v := .ref (cl 16)) rfl (T.glob 16 (by decide)) rfl) pa_nil)))
      (pa_cons (pe_callB call_isErr (by rfl) isi (by decide +kernel) (pa_cons (pv 0) (pa_cons (pe_glob (v := .ref (cl 17)) rfl (T.glob 17 (by decide)) rfl) pa_nil)))
      pa_nil))))))
    (pss_cons (ps_set (i := 1) scKinds.nd rfl (Or.inr rfl) (pe_op op_cat (pv 1) (pe_lst (pa_cons (pe_callB call_isErr (by rfl) isi (by decide +kernel) (pa_cons (pv 0) (pa_cons (pe_glob (v := .ref (cl 18)) rfl (T.glob 18 (by decide)) rfl) pa_nil)))
      pa_nil))))
    (pss_one (ps_ret (pe_lc (own := [("_law_rank", 2)]) (g := gName 2) rfl scKinds.nd (pi_range1 rfl rng (pa_cons pe_int pa_nil)) (blkOk_by (N := ["_law_caught", "_law_found", "_law_rank"]) (sc := defScope sKinds) (by decide +kernel)) (fun _ _ _ _ _ => pg_name (i := 2) scKinds.nd rfl (Or.inl rfl)) (fun _ _ _ _ _ => pts_one (pt_val (pe_ix (show IxR _ (rIxL K) from ix_list) (pv 1) (pv 2) (fun _ _ => rfl)))) (fun _ _ _ _ _ => pv 2))))))))))), ?_⟩
    refine ⟨_, rfl, a, cl r, d, fI, _, v, .ref (cl 0), .ref (cl 0), kb r 0, rfl, T.err r hr0, T.ask r hr0, T.obj hr0, h0.1, h0.2, .own _, T.kit hr0 (by decide), _, rfl, a, cl r, d, fI, _, v, .ref (cl 1), .ref (cl 1), kb r 1, rfl, T.err r hr0, T.ask r hr0, T.obj hr0, h0.1, h0.2, .own _, T.kit hr0 (by decide), _, rfl, a, cl r, d, fI, _, v, .ref (cl 2), .ref (cl 2), kb r 2, rfl, T.err r hr0, T.ask r hr0, T.obj hr0, h0.1, h0.2, .own _, T.kit hr0 (by decide), (by show 3 ≤ sizeLine; decide), fun p0 hp0 => ?_⟩
    have e0 := h0.more (o := .lst [.bl (kb r 0), .bl (kb r 1), .bl (kb r 2)]) hp0
    have l0 : upd H p0 (.lst [.bl (kb r 0), .bl (kb r 1), .bl (kb r 2)]) p0 = some (.lst [.bl (kb r 0), .bl (kb r 1), .bl (kb r 2)]) := upd_same
    have s0 := same_new (o := .lst [.bl (kb r 0), .bl (kb r 1), .bl (kb r 2)]) hp0
    refine ⟨_, rfl, _, rfl, a, cl r, d, fI, _, v, .ref (cl 3), .ref (cl 3), kb r 3, rfl, T.err r hr0, T.ask r hr0, T.obj hr0, e0.1, e0.2, .own _, T.kit hr0 (by decide), _, rfl, a, cl r, d, fI, _, v, .ref (cl 4), .ref (cl 4), kb r 4, rfl, T.err r hr0, T.ask r hr0, T.obj hr0, e0.1, e0.2, .own _, T.kit hr0 (by decide), _, rfl, a, cl r, d, fI, _, v, .ref (cl 5), .ref (cl 5), kb r 5, rfl, T.err r hr0, T.ask r hr0, T.obj hr0, e0.1, e0.2, .own _, T.kit hr0 (by decide), (by show 3 ≤ sizeLine; decide), fun t1 ht1 => ?_⟩
    have f1 := e0.more (o := .lst [.bl (kb r 3), .bl (kb r 4), .bl (kb r 5)]) ht1
    have m1 := keep_new (u := .lst [.bl (kb r 3), .bl (kb r 4), .bl (kb r 5)]) l0 ht1
    refine ⟨p0, t1, _, _, rfl, rfl, m1, upd_same, (by show 3 + 3 ≤ sizeLine; decide), fun p1 hp1 => ?_⟩
    have e1 := f1.more (o := .lst [.bl (kb r 0), .bl (kb r 1), .bl (kb r 2), .bl (kb r 3), .bl (kb r 4), .bl (kb r 5)]) hp1
    have l1 := at_new (o := .lst [.bl (kb r 0), .bl (kb r 1), .bl (kb r 2), .bl (kb r 3), .bl (kb r 4), .bl (kb r 5)]) hp1
    have s1 := (s0.trans (same_new (o := .lst [.bl (kb r 3), .bl (kb r 4), .bl (kb r 5)]) ht1)).trans (same_new (o := .lst [.bl (kb r 0), .bl (kb r 1), .bl (kb r 2), .bl (kb r 3), .bl (kb r 4), .bl (kb r 5)]) hp1)
    refine ⟨_, rfl, _, rfl, a, cl r, d, fI, _, v, .ref (cl 6), .ref (cl 6), kb r 6, rfl, T.err r hr0, T.ask r hr0, T.obj hr0, e1.1, e1.2, .own _, T.kit hr0 (by decide), _, rfl, a, cl r, d, fI, _, v, .ref (cl 7), .ref (cl 7), kb r 7, rfl, T.err r hr0, T.ask r hr0, T.obj hr0, e1.1, e1.2, .own _, T.kit hr0 (by decide), _, rfl, a, cl r, d, fI, _, v, .ref (cl 8), .ref (cl 8), kb r 8, rfl, T.err r hr0, T.ask r hr0, T.obj hr0, e1.1, e1.2, .own _, T.kit hr0 (by decide), (by show 3 ≤ sizeLine; decide), fun t2 ht2 => ?_⟩
    have f2 := e1.more (o := .lst [.bl (kb r 6), .bl (kb r 7), .bl (kb r 8)]) ht2
    have m2 := keep_new (u := .lst [.bl (kb r 6), .bl (kb r 7), .bl (kb r 8)]) l1 ht2
    refine ⟨p1, t2, _, _, rfl, rfl, m2, upd_same, (by show 6 + 3 ≤ sizeLine; decide), fun p2 hp2 => ?_⟩
    have e2 := f2.more (o := .lst [.bl (kb r 0), .bl (kb r 1), .bl (kb r 2), .bl (kb r 3), .bl (kb r 4), .bl (kb r 5), .bl (kb r 6), .bl (kb r 7), .bl (kb r 8)]) hp2
    have l2 := at_new (o := .lst [.bl (kb r 0), .bl (kb r 1), .bl (kb r 2), .bl (kb r 3), .bl (kb r 4), .bl (kb r 5), .bl (kb r 6), .bl (kb r 7), .bl (kb r 8)]) hp2
    have s2 := (s1.trans (same_new (o := .lst [.bl (kb r 6), .bl (kb r 7), .bl (kb r 8)]) ht2)).trans (same_new (o := .lst [.bl (kb r 0), .bl (kb r 1), .bl (kb r 2), .bl (kb r 3), .bl (kb r 4), .bl (kb r 5), .bl (kb r 6), .bl (kb r 7), .bl (kb r 8)]) hp2)
    refine ⟨_, rfl, _, rfl, a, cl r, d, fI, _, v, .ref (cl 9), .ref (cl 9), kb r 9, rfl, T.err r hr0, T.ask r hr0, T.obj hr0, e2.1, e2.2, .own _, T.kit hr0 (by decide), _, rfl, a, cl r, d, fI, _, v, .ref (cl 10), .ref (cl 10), kb r 10, rfl, T.err r hr0, T.ask r hr0, T.obj hr0, e2.1, e2.2, .own _, T.kit hr0 (by decide), _, rfl, a, cl r, d, fI, _, v, .ref (cl 11), .ref (cl 11), kb r 11, rfl, T.err r hr0, T.ask r hr0, T.obj hr0, e2.1, e2.2, .own _, T.kit hr0 (by decide), (by show 3 ≤ sizeLine; decide), fun t3 ht3 => ?_⟩
    have f3 := e2.more (o := .lst [.bl (kb r 9), .bl (kb r 10), .bl (kb r 11)]) ht3
    have m3 := keep_new (u := .lst [.bl (kb r 9), .bl (kb r 10), .bl (kb r 11)]) l2 ht3
    refine ⟨p2, t3, _, _, rfl, rfl, m3, upd_same, (by show 9 + 3 ≤ sizeLine; decide), fun p3 hp3 => ?_⟩
    have e3 := f3.more (o := .lst [.bl (kb r 0), .bl (kb r 1), .bl (kb r 2), .bl (kb r 3), .bl (kb r 4), .bl (kb r 5), .bl (kb r 6), .bl (kb r 7), .bl (kb r 8), .bl (kb r 9), .bl (kb r 10), .bl (kb r 11)]) hp3
    have l3 := at_new (o := .lst [.bl (kb r 0), .bl (kb r 1), .bl (kb r 2), .bl (kb r 3), .bl (kb r 4), .bl (kb r 5), .bl (kb r 6), .bl (kb r 7), .bl (kb r 8), .bl (kb r 9), .bl (kb r 10), .bl (kb r 11)]) hp3
    have s3 := (s2.trans (same_new (o := .lst [.bl (kb r 9), .bl (kb r 10), .bl (kb r 11)]) ht3)).trans (same_new (o := .lst [.bl (kb r 0), .bl (kb r 1), .bl (kb r 2), .bl (kb r 3), .bl (kb r 4), .bl (kb r 5), .bl (kb r 6), .bl (kb r 7), .bl (kb r 8), .bl (kb r 9), .bl (kb r 10), .bl (kb r 11)]) hp3)
    refine ⟨_, rfl, _, rfl, a, cl r, d, fI, _, v, .ref (cl 12), .ref (cl 12), kb r 12, rfl, T.err r hr0, T.ask r hr0, T.obj hr0, e3.1, e3.2, .own _, T.kit hr0 (by decide), _, rfl, a, cl r, d, fI, _, v, .ref (cl 13), .ref (cl 13), kb r 13, rfl, T.err r hr0, T.ask r hr0, T.obj hr0, e3.1, e3.2, .own _, T.kit hr0 (by decide), _, rfl, a, cl r, d, fI, _, v, .ref (cl 14), .ref (cl 14), kb r 14, rfl, T.err r hr0, T.ask r hr0, T.obj hr0, e3.1, e3.2, .own _, T.kit hr0 (by decide), (by show 3 ≤ sizeLine; decide), fun t4 ht4 => ?_⟩
    have f4 := e3.more (o := .lst [.bl (kb r 12), .bl (kb r 13), .bl (kb r 14)]) ht4
    have m4 := keep_new (u := .lst [.bl (kb r 12), .bl (kb r 13), .bl (kb r 14)]) l3 ht4
    refine ⟨p3, t4, _, _, rfl, rfl, m4, upd_same, (by show 12 + 3 ≤ sizeLine; decide), fun p4 hp4 => ?_⟩
    have e4 := f4.more (o := .lst [.bl (kb r 0), .bl (kb r 1), .bl (kb r 2), .bl (kb r 3), .bl (kb r 4), .bl (kb r 5), .bl (kb r 6), .bl (kb r 7), .bl (kb r 8), .bl (kb r 9), .bl (kb r 10), .bl (kb r 11), .bl (kb r 12), .bl (kb r 13), .bl (kb r 14)]) hp4
    have l4 := at_new (o := .lst [.bl (kb r 0), .bl (kb r 1), .bl (kb r 2), .bl (kb r 3), .bl (kb r 4), .bl (kb r 5), .bl (kb r 6), .bl (kb r 7), .bl (kb r 8), .bl (kb r 9), .bl (kb r 10), .bl (kb r 11), .bl (kb r 12), .bl (kb r 13), .bl (kb r 14)]) hp4
    have s4 := (s3.trans (same_new (o := .lst [.bl (kb r 12), .bl (kb r 13), .bl (kb r 14)]) ht4)).trans (same_new (o := .lst [.bl (kb r 0), .bl (kb r 1), .bl (kb r 2), .bl (kb r 3), .bl (kb r 4), .bl (kb r 5), .bl (kb r 6), .bl (kb r 7), .bl (kb r 8), .bl (kb r 9), .bl (kb r 10), .bl (kb r 11), .bl (kb r 12), .bl (kb r 13), .bl (kb r 14)]) hp4)
    refine ⟨_, rfl, _, rfl, a, cl r, d, fI, _, v, .ref (cl 15), .ref (cl 15), kb r 15, rfl, T.err r hr0, T.ask r hr0, T.obj hr0, e4.1, e4.2, .own _, T.kit hr0 (by decide), _, rfl, a, cl r, d, fI, _, v, .ref (cl 16), .ref (cl 16), kb r 16, rfl, T.err r hr0, T.ask r hr0, T.obj hr0, e4.1, e4.2, .own _, T.kit hr0 (by decide), _, rfl, a, cl r, d, fI, _, v, .ref (cl 17), .ref (cl 17), kb r 17, rfl, T.err r hr0, T.ask r hr0, T.obj hr0, e4.1, e4.2, .own _, T.kit hr0 (by decide), (by show 3 ≤ sizeLine; decide), fun t5 ht5 => ?_⟩
    have f5 := e4.more (o := .lst [.bl (kb r 15), .bl (kb r 16), .bl (kb r 17)]) ht5
    have m5 := keep_new (u := .lst [.bl (kb r 15), .bl (kb r 16), .bl (kb r 17)]) l4 ht5
    refine ⟨p4, t5, _, _, rfl, rfl, m5, upd_same, (by show 15 + 3 ≤ sizeLine; decide), fun p5 hp5 => ?_⟩
    have e5 := f5.more (o := .lst [.bl (kb r 0), .bl (kb r 1), .bl (kb r 2), .bl (kb r 3), .bl (kb r 4), .bl (kb r 5), .bl (kb r 6), .bl (kb r 7), .bl (kb r 8), .bl (kb r 9), .bl (kb r 10), .bl (kb r 11), .bl (kb r 12), .bl (kb r 13), .bl (kb r 14), .bl (kb r 15), .bl (kb r 16), .bl (kb r 17)]) hp5
    have l5 := at_new (o := .lst [.bl (kb r 0), .bl (kb r 1), .bl (kb r 2), .bl (kb r 3), .bl (kb r 4), .bl (kb r 5), .bl (kb r 6), .bl (kb r 7), .bl (kb r 8), .bl (kb r 9), .bl (kb r 10), .bl (kb r 11), .bl (kb r 12), .bl (kb r 13), .bl (kb r 14), .bl (kb r 15), .bl (kb r 16), .bl (kb r 17)]) hp5
    have s5 := (s4.trans (same_new (o := .lst [.bl (kb r 15), .bl (kb r 16), .bl (kb r 17)]) ht5)).trans (same_new (o := .lst [.bl (kb r 0), .bl (kb r 1), .bl (kb r 2), .bl (kb r 3), .bl (kb r 4), .bl (kb r 5), .bl (kb r 6), .bl (kb r 7), .bl (kb r 8), .bl (kb r 9), .bl (kb r 10), .bl (kb r 11), .bl (kb r 12), .bl (kb r 13), .bl (kb r 14), .bl (kb r 15), .bl (kb r 16), .bl (kb r 17)]) hp5)
    refine ⟨_, rfl, _, rfl, a, cl r, d, fI, _, v, .ref (cl 18), .ref (cl 18), kb r 18, rfl, T.err r hr0, T.ask r hr0, T.obj hr0, e5.1, e5.2, .own _, T.kit hr0 (by decide), (by show 1 ≤ sizeLine; decide), fun t6 ht6 => ?_⟩
    have f6 := e5.more (o := .lst [.bl (kb r 18)]) ht6
    have m6 := keep_new (u := .lst [.bl (kb r 18)]) l5 ht6
    refine ⟨p5, t6, _, _, rfl, rfl, m6, upd_same, (by show 18 + 1 ≤ sizeLine; decide), fun p6 hp6 => ?_⟩
    have e6 := f6.more (o := .lst [.bl (kb r 0), .bl (kb r 1), .bl (kb r 2), .bl (kb r 3), .bl (kb r 4), .bl (kb r 5), .bl (kb r 6), .bl (kb r 7), .bl (kb r 8), .bl (kb r 9), .bl (kb r 10), .bl (kb r 11), .bl (kb r 12), .bl (kb r 13), .bl (kb r 14), .bl (kb r 15), .bl (kb r 16), .bl (kb r 17), .bl (kb r 18)]) hp6
    have l6 := at_new (o := .lst [.bl (kb r 0), .bl (kb r 1), .bl (kb r 2), .bl (kb r 3), .bl (kb r 4), .bl (kb r 5), .bl (kb r 6), .bl (kb r 7), .bl (kb r 8), .bl (kb r 9), .bl (kb r 10), .bl (kb r 11), .bl (kb r 12), .bl (kb r 13), .bl (kb r 14), .bl (kb r 15), .bl (kb r 16), .bl (kb r 17), .bl (kb r 18)]) hp6
    have s6 := (s5.trans (same_new (o := .lst [.bl (kb r 18)]) ht6)).trans (same_new (o := .lst [.bl (kb r 0), .bl (kb r 1), .bl (kb r 2), .bl (kb r 3), .bl (kb r 4), .bl (kb r 5), .bl (kb r 6), .bl (kb r 7), .bl (kb r 8), .bl (kb r 9), .bl (kb r 10), .bl (kb r 11), .bl (kb r 12), .bl (kb r 13), .bl (kb r 14), .bl (kb r 15), .bl (kb r 16), .bl (kb r 17), .bl (kb r 18)]) hp6)
    have lB : upd _ p6 (.lst (allB r)) p6 = some (.lst (allB r)) := at_new hp6
    refine ⟨19, rfl, by decide, by decide, fun D hD => ?_⟩
    have hD0 : H D = none := s6.free hD
    have npD : p6 ≠ D := ne_of_none lB hD
    refine lc_range (lo := 0) (n := 19) (fun i H' => H' D = some (.lst ((kindsUpTo r i).map V.int)) ∧ H' p6 = some (.lst (allB r)) ∧ Same H H') ⟨upd_same, (upd_ne npD).trans lB, s6.trans (same_new hD)⟩ ?_ ?_
    · rintro i H' hi ⟨h1, h2, h3⟩
      refine ⟨rfl, _, rfl, _, rfl, p6, _, _, _, rfl, rfl, SqL.of h2, atB r hi, _, rfl, ?_⟩
      have step := kinds_more r i
      refine ite2 (fun hk => ?_) (fun hk => ?_)
      · rw [if_pos hk] at step
        refine ⟨_, rfl, _, h1, ?_, ?_, (upd_ne npD).trans h2, ?_⟩
        · rw [List.length_map]
          exact Nat.lt_of_le_of_lt (kinds_len r i) (Nat.lt_of_lt_of_le (show i < 20 by omega) (by decide))
        · rw [step, List.map_append, Int.zero_add]
          exact upd_same
        · intro b o e
          rw [upd_ne (ne_of_none e hD0)]
          exact h3 b o e
      · rw [if_neg hk] at step
        rw [step]
        exact ⟨h1, h2, h3⟩
    · rintro H' ⟨h1, h2, h3⟩
      exact k H' D hD0 h3 h1
end
end K0

set_option Elab.async false
set_option linter.all false
set_option maxRecDepth 100000
set_option maxHeartbeats 8000000
namespace K0
open PySem L2 PySem.HouseX
/-! ### things: numbers, texts, None, True, and lists and tuples of them, at places of their own -/
def Flat (v : V) : Prop := v = .non ∨ v = .bl true ∨ (∃ i : Int, v = .int i ∧ i.natAbs < 2 ^ 200) ∨ ∃ x : Str, v = .str x ∧ (reprText x).length ≤ 100
/-- v is a thing at most n deep, with at most m items a list, at the places as -/
def Dat (m : Nat) : Nat → Hp → V → List Addr → Prop
  | 0, _, v, as => as = [] ∧ Flat v
  | n + 1, H, v, as => (as = [] ∧ Flat v) ∨ ∃ (a : Addr) (xs : List V) (ass : List (List Addr)), v = .ref a ∧ (H a = some (.lst xs) ∨ H a = some (.tup xs)) ∧ xs.length ≤ m ∧ ass.length = xs.length ∧
      (∀ j < xs.length, Dat m n H (xs.getD j .non) (ass.getD j [])) ∧ as = a :: ass.flatten
theorem mem_flat {ass : List (List Addr)} {j : Nat} {b : Addr} (h : b ∈ ass.getD j []) : b ∈ ass.flatten := by
  rw [List.getD_eq_getElem?_getD] at h
  cases e : ass[j]? with
  | none =>
    rw [e] at h
    cases h
  | some l =>
    rw [e] at h
    exact List.mem_flatten.mpr ⟨l, List.mem_of_getElem? e, h⟩
theorem Dat.frame {m : Nat} {H H' : Hp} : ∀ {n : Nat} {v : V} {as : List Addr}, Dat m n H v as → (∀ b ∈ as, ∀ o, H b = some o → H' b = some o) → Dat m n H' v as
  | 0, _, _, h, _ => h
  | n + 1, v, as, h, k => by
    rcases h with h | ⟨a, xs, ass, rfl, ha, hl, hl2, hd, rfl⟩
    · exact .inl h
    · refine .inr ⟨a, xs, ass, rfl, ?_, hl, hl2, fun j hj => (hd j hj).frame fun b hb o e => k b (List.mem_cons_of_mem _ (mem_flat hb)) o e, rfl⟩
      rcases ha with ha | ha
      · exact .inl (k a List.mem_cons_self _ ha)
      · exact .inr (k a List.mem_cons_self _ ha)
theorem Dat.mono {m m' : Nat} {H : Hp} (hm : m ≤ m') : ∀ {n : Nat} {v : V} {as : List Addr}, Dat m n H v as → Dat m' n H v as
  | 0, _, _, h => h
  | n + 1, v, as, h => by
    rcases h with h | ⟨a, xs, ass, rfl, ha, hl, hl2, hd, rfl⟩
    · exact .inl h
    · exact .inr ⟨a, xs, ass, rfl, ha, Nat.le_trans hl hm, hl2, fun j hj => (hd j hj).mono hm, rfl⟩
/-- every place of a thing is tracked -/
theorem Dat.has {m : Nat} {H : Hp} : ∀ {n : Nat} {v : V} {as : List Addr}, Dat m n H v as → ∀ b ∈ as, ∃ o, H b = some o
  | 0, _, _, h, b, hb => by
    rw [h.1] at hb
    cases hb
  | n + 1, v, as, h, b, hb => by
    rcases h with h | ⟨a, xs, ass, rfl, ha, hl, hl2, hd, rfl⟩
    · rw [h.1] at hb
      cases hb
    · rcases List.mem_cons.mp hb with e | e
      · rw [e]
        rcases ha with ha | ha
        · exact ⟨_, ha⟩
        · exact ⟨_, ha⟩
      · obtain ⟨l, hl3, hbl⟩ := List.mem_flatten.mp e
        obtain ⟨j, hj, rfl⟩ := List.mem_iff_getElem.mp hl3
        have hj2 : j < xs.length := by omega
        have q := (hd j hj2).has b
        rw [List.getD_eq_getElem?_getD, List.getElem?_eq_getElem hj] at q
        exact q hbl
/-- what is shown of a thing -/
structure Shows (K : PySem.W.Frag) (H : Hp) (n most : Nat) (v : V) (d : PyData) : Prop where
  dp : Dp K H v d
  sh : d.showable = true
  nd : d.hasDict = false
  dep : d.depth ≤ n
  len : d.shown.length ≤ most
def most (m : Nat) : Nat → Nat
  | 0 => 1921
  | n + 1 => m * (most m n + 2) + 3
theorem most_ge (m n : Nat) (hm : 1 ≤ m) : 1921 ≤ most m n := by
  induction n with
  | zero => exact Nat.le_refl _
  | succ n ih =>
    show 1921 ≤ m * (most m n + 2) + 3
    have := Nat.mul_le_mul hm (Nat.le_refl (most m n + 2))
    omega
theorem flat_shows {K : PySem.W.Frag} {H : Hp} {v : V} (h : Flat v) : ∃ d, Shows K H 0 1921 v d := by
  rcases h with rfl | rfl | ⟨i, rfl, hi⟩ | ⟨x, rfl, hx⟩
  · exact ⟨.none, .non, rfl, rfl, Nat.le_refl _, by show (Str.ofString "None").length ≤ 1921; decide⟩
  · exact ⟨.bool true, .bl _, rfl, rfl, Nat.le_refl _, by show (Str.ofString "True").length ≤ 1921; decide⟩
  · have hl : i.natAbs.log2 < 1920 := Nat.lt_of_lt_of_le (PySem.Flt.log2_lt_of (by decide) hi) (by decide)
    exact ⟨.int i, .int _, decide_eq_true hl, rfl, Nat.le_refl _, PyProof.Rows.int_text_len_1921 hl⟩
  · exact ⟨.str x, .str _, rfl, rfl, Nat.le_refl _, Nat.le_trans hx (by decide)⟩
theorem all_shows {K : PySem.W.Frag} {H : Hp} {n k : Nat} : ∀ {xs : List V}, (∀ x ∈ xs, ∃ d, Shows K H n k x d) →
    ∃ ds, DpAll K H xs ds ∧ PyData.showableAll ds = true ∧ PyData.hasDictAll ds = false ∧ PyData.depthAll ds ≤ n ∧ ((PyData.shownAll ds).map (·.length)).sum ≤ xs.length * k ∧ (PyData.shownAll ds).length = xs.length
  | [], _ => ⟨[], .nil, rfl, rfl, Nat.zero_le _, Nat.zero_le _, rfl⟩
  | x :: xs, h => by
    obtain ⟨d, hd⟩ := h x List.mem_cons_self
    obtain ⟨ds, h1, h2, h3, h4, h5, h6⟩ := all_shows fun y hy => h y (List.mem_cons_of_mem _ hy)
    refine ⟨d :: ds, .cons hd.dp h1, ?_, ?_, ?_, ?_, ?_⟩
    · simp [PyData.showableAll, hd.sh, h2]
    · simp [PyData.hasDictAll, hd.nd, h3]
    · simp only [PyData.depthAll]
      have := hd.dep
      omega
    · simp only [PyData.shownAll, List.map_cons, List.sum_cons, List.length_cons]
      have := hd.len
      rw [Nat.succ_mul]
      omega
    · simp [PyData.shownAll, h6]
theorem Dat.shows {m : Nat} {K : PySem.W.Frag} {H : Hp} (hm : 1 ≤ m) : ∀ {n : Nat} {v : V} {as : List Addr}, Dat m n H v as → ∃ d, Shows K H n (most m n) v d
  | 0, _, _, h => flat_shows h.2
  | n + 1, v, as, h => by
    rcases h with h | ⟨a, xs, ass, rfl, ha, hl, hl2, hd, rfl⟩
    · obtain ⟨d, q⟩ := flat_shows (K := K) (H := H) h.2
      exact ⟨d, q.dp, q.sh, q.nd, Nat.le_trans q.dep (Nat.zero_le _), Nat.le_trans q.len (most_ge m (n + 1) hm)⟩
    · have each : ∀ x ∈ xs, ∃ d, Shows K H n (most m n) x d := fun x hx => by
        obtain ⟨j, hj, rfl⟩ := List.mem_iff_getElem.mp hx
        have q := (hd j hj).shows (K := K) hm
        rw [List.getD_eq_getElem?_getD, List.getElem?_eq_getElem hj] at q
        exact q
      obtain ⟨ds, h1, h2, h3, h4, h5, h6⟩ := all_shows each
      have bound : ((PyData.shownAll ds).map (·.length)).sum + 2 * (PyData.shownAll ds).length + 3 ≤ most m (n + 1) := by
        have q : xs.length * (most m n + 2) ≤ m * (most m n + 2) := Nat.mul_le_mul_right _ hl
        rw [Nat.mul_add] at q
        show _ ≤ m * (most m n + 2) + 3
        omega
      rcases ha with ha | ha
      · refine ⟨.list ds, .lst (SqL.of ha) h1, ?_, ?_, ?_, ?_⟩
        · simpa [PyData.showable] using h2
        · simpa [PyData.hasDict] using h3
        · simp only [PyData.depth]
          omega
        · simp only [PyData.shown]
          exact Nat.le_trans (listText_len_le _) bound
      · refine ⟨.tuple ds, .tup (SqT.of ha) h1, ?_, ?_, ?_, ?_⟩
        · simpa [PyData.showable] using h2
        · simpa [PyData.hasDict] using h3
        · simp only [PyData.depth]
          omega
        · simp only [PyData.shown]
          exact Nat.le_trans (tupleText_len_le _) bound
end K0

set_option Elab.async false
set_option linter.all false
set_option maxRecDepth 100000
set_option maxHeartbeats 8000000
namespace K0
open PySem L2 PySem.HouseX
def spRanks (n : Nat) : Sp := fun vs H Q _ => ∃ (v : V) (as : List Addr) (r : Addr) (k : Int), vs = [v, .ref r] ∧ Dat 5 n H v as ∧ (r :: as).Nodup ∧ H r = some (.lst [.int k]) ∧ 0 ≤ k ∧ k + as.length ≤ 1000 ∧
  ∀ H' k', k ≤ k' → k' ≤ k + as.length → H' r = some (.lst [.int k']) → Dat 6 n H' v as → (∀ b, b ≠ r → b ∉ as → ∀ o, H b = some o → H' b = some o) → Q .non H'
structure TxtR (K : PySem.W.Frag) (mg : Str → Option Value) (f : Addr) : Prop where
  isi : mg "isinstance" = none
  list : mg "list" = none
  tuple : mg "tuple" = none
  g : mg "_law_hd_ranks" = some (.ref f)
theorem flat_not {K : PySem.W.Frag} {H : Hp} {v : V} (h : Flat v) : ∃ t, TyX K H v t ∧ PySem.W.kitAny K t [.type "list", .type "tuple"] = some false ∧ PySem.W.kitOne K t (.type "list") = some false := by
  have two : ∀ T : String, kitB T "list" = some false → kitB T "tuple" = some false → PySem.W.kitAny K (.type T) [.type "list", .type "tuple"] = some false ∧ PySem.W.kitOne K (.type T) (.type "list") = some false := fun T h1 h2 =>
    ⟨kitAny_cons (kit_ty h1) (fun _ => kitAny_cons (kit_ty h2) (fun _ => rfl) (fun z => z)) (fun z => z), kit_ty h1⟩
  rcases h with rfl | rfl | ⟨i, rfl, _⟩ | ⟨x, rfl, _⟩
  · exact ⟨_, .base .non, (two "NoneType" (by decide +kernel) (by decide +kernel)).1, (two "NoneType" (by decide +kernel) (by decide +kernel)).2⟩
  · exact ⟨_, .base (.bl true), (two "bool" (by decide +kernel) (by decide +kernel)).1, (two "bool" (by decide +kernel) (by decide +kernel)).2⟩
  · exact ⟨_, .base (.int i), (two "int" (by decide +kernel) (by decide +kernel)).1, (two "int" (by decide +kernel) (by decide +kernel)).2⟩
  · exact ⟨_, .base (.str x), (two "str" (by decide +kernel) (by decide +kernel)).1, (two "str" (by decide +kernel) (by decide +kernel)).2⟩
theorem Dat.flat {m n : Nat} {H : Hp} {v : V} (h : Flat v) : Dat m n H v [] := by
  cases n with
  | zero => exact ⟨rfl, h⟩
  | succ n => exact .inl ⟨rfl, h⟩
theorem kind_of {K : PySem.W.Frag} {H : Hp} {a : Addr} {xs : List V} (ha : H a = some (.lst xs) ∨ H a = some (.tup xs)) :
    ∃ (t : Value) (c : Bool), (∀ H' : Hp, H' a = H a → TyX K H' (.ref a) t) ∧ PySem.W.kitAny K t [.type "list", .type "tuple"] = some true ∧ PySem.W.kitOne K t (.type "list") = some c ∧ (c = true → H a = some (.lst xs)) ∧ (c = false → H a = some (.tup xs)) := by
  rcases ha with ha | ha
  · exact ⟨.type "list", true, fun H' e => .base (.lst (e.trans ha)), kitAny_cons (b := true) (kit_ty (by decide +kernel)) (fun z => nomatch z) (fun _ => rfl), kit_ty (by decide +kernel), fun _ => ha, (fun z => Bool.noConfusion z)⟩
  · exact ⟨.type "tuple", false, fun H' e => .base (.tup (e.trans ha)), kitAny_cons (b := false) (kit_ty (by decide +kernel)) (fun _ => kitAny_cons (b := true) (kit_ty (by decide +kernel)) (fun z => nomatch z) (fun _ => rfl)) (fun z => nomatch z), kit_ty (by decide +kernel), (fun z => Bool.noConfusion z), fun _ => ha⟩
theorem flat_take {ass : List (List Addr)} {i : Nat} (h : i < ass.length) : (ass.take (i + 1)).flatten.length = (ass.take i).flatten.length + (ass.getD i []).length := by
  rw [List.take_add_one, List.getElem?_eq_getElem h, List.flatten_append, List.length_append, List.getD_eq_getElem?_getD, List.getElem?_eq_getElem h]
  simp
theorem flat_le (ass : List (List Addr)) (i : Nat) : (ass.take i).flatten.length ≤ ass.flatten.length := by
  have h : ass.flatten = (ass.take i).flatten ++ (ass.drop i).flatten := by
    rw [← List.flatten_append, List.take_append_drop]
  rw [h, List.length_append]
  omega
theorem getD_mem {ass : List (List Addr)} {i : Nat} (h : i < ass.length) : ass.getD i [] ∈ ass := by
  rw [List.getD_eq_getElem?_getD, List.getElem?_eq_getElem h]
  exact List.getElem_mem h
theorem getD_left {α : Type} {l : List α} {x d : α} {j : Nat} (h : j < l.length) : (l ++ [x]).getD j d = l.getD j d := by
  rw [List.getD_eq_getElem?_getD, List.getD_eq_getElem?_getD, List.getElem?_append_left h]
theorem getD_end {α : Type} {l : List α} {x d : α} {j : Nat} (h : j = l.length) : (l ++ [x]).getD j d = x := by
  rw [List.getD_eq_getElem?_getD, h, List.getElem?_append_right (Nat.le_refl _), Nat.sub_self]
  rfl
theorem apart_of {ass : List (List Addr)} (nd : ass.flatten.Nodup) {i j : Nat} (hi : i < ass.length) (hj : j < ass.length) (ne : i ≠ j) {b : Addr} (h1 : b ∈ ass.getD i []) (h2 : b ∈ ass.getD j []) : False := by
  have pw := (List.pairwise_flatten.mp nd).2
  rw [List.pairwise_iff_getElem] at pw
  rw [List.getD_eq_getElem?_getD, List.getElem?_eq_getElem hi] at h1
  rw [List.getD_eq_getElem?_getD, List.getElem?_eq_getElem hj] at h2
  rcases Nat.lt_or_gt_of_ne ne with l | l
  · exact pw i j hi hj l b h1 b h2 rfl
  · exact pw j i hj hi l b h2 b h1 rfl
section
variable {P : Program} {w : World} {K : PySem.W.Frag} {mg : Str → Option Value} {base : Heap}
theorem scRanks : FnScope ["_law_thing", "_law_ranks", "_law_part"] ["_law_thing", "_law_ranks"] (defScope sRanks) := ⟨rfl, rfl, rfl, by decide +kernel, rfl, by decide +kernel, by decide +kernel⟩
/-- a thing that holds no others -/
theorem ok_ranks0 {f : Addr} {fd : FuncData} (F : Fun K "_law_hd_ranks" "_law_hd_ranks" sRanks f fd) (T : TxtR K mg f) : FnOk P w K mg base CX0 1 f fd ["_law_thing", "_law_ranks"] (spRanks 0) := by
  refine F.ok scRanks (fun vs H Q E h => ?_) (fun cdv A outer s H vs Q E hr h => ?_)
  · obtain ⟨v, as, r, k, rfl, _⟩ := h
    rfl
  · obtain ⟨v, as, r, k, rfl, ⟨rfl, hf⟩, nd, h1, h2, h3, q⟩ := h
    refine ⟨_, pss_cons (ps_if (pt_val (pe_callB call_isiT (by rfl) T.isi (by decide +kernel) (pa_cons (pv 0) (pa_cons (pe_tup (pa_cons (pe_bltn (v := .ty "list") (by rfl) T.list (by decide +kernel) rfl) (pa_cons (pe_bltn (v := .ty "tuple") (by rfl) T.tuple (by decide +kernel) rfl) pa_nil))) pa_nil))))
        (pss_one ps_never) pss_nil)
      (pss_one (ps_if (pt_val (pe_callB call_isi (by rfl) T.isi (by decide +kernel) (pa_cons (pv 0) (pa_cons (pe_bltn (v := .ty "list") (by rfl) T.list (by decide +kernel) rfl) pa_nil)))) (pss_cons ps_never (pss_one ps_never)) pss_nil)), ?_⟩
    refine ⟨_, rfl, (by show 2 ≤ sizeLine; decide), fun tp htp => ?_⟩
    obtain ⟨t, ty, a1, a2⟩ := flat_not (K := K) (H := upd H tp (.tup [.ty "list", .ty "tuple"])) hf
    refine ⟨_, tp, _, t, _, false, rfl, upd_same, .cons (.ty _) (.cons (.ty _) .nil), ty, a1, _, rfl, iteF ?_⟩
    refine ⟨_, rfl, _, _, t, _, false, rfl, .ty _, ty, a2, _, rfl, iteF ?_⟩
    exact q _ k (Int.le_refl _) (by omega) ((upd_ne (ne_of_none h1 htp)).trans h1) ⟨rfl, hf⟩ fun b _ _ o e => (upd_ne (ne_of_none e htp)).trans e
theorem ok_ranks {f : Addr} {fd : FuncData} (F : Fun K "_law_hd_ranks" "_law_hd_ranks" sRanks f fd) (T : TxtR K mg f) (b : Binds K fd ["_law_thing", "_law_ranks"] []) : ∀ n, FnOk P w K mg base CX0 (n + 1) f fd ["_law_thing", "_law_ranks"] (spRanks n)
  | 0 => ok_ranks0 F T
  | n + 1 => by
    have G := ok_ranks F T b n
    refine F.ok scRanks (fun vs H Q E h => ?_) (fun cdv A outer s H vs Q E hr h => ?_)
    · obtain ⟨v, as, r, k, rfl, _⟩ := h
      rfl
    · obtain ⟨v, as, r, k, rfl, hD, nd, h1, h2, h3, q⟩ := h
      refine ⟨_, pss_cons (ps_if (pt_val (pe_callB call_isiT (by rfl) T.isi (by decide +kernel) (pa_cons (pv 0) (pa_cons (pe_tup (pa_cons (pe_bltn (v := .ty "list") (by rfl) T.list (by decide +kernel) rfl) (pa_cons (pe_bltn (v := .ty "tuple") (by rfl) T.tuple (by decide +kernel) rfl) pa_nil))) pa_nil))))
          (pss_one (ps_for PassesOwn.never rfl (pi_list (pe_callTy call_list_of (by rfl) T.list (by decide +kernel) (pa_cons (pv 0) pa_nil))) (pg_name (i := 2) scRanks.nd rfl (Or.inl rfl))
            (pss_one (ps_expr (pe_call G hr rfl T.g F.kp b .nil pass0 (pa_cons (pv 2) (pa_cons (pv 1) pa_nil))))))) pss_nil)
        (pss_one (ps_if (pt_val (pe_callB call_isi (by rfl) T.isi (by decide +kernel) (pa_cons (pv 0) (pa_cons (pe_bltn (v := .ty "list") (by rfl) T.list (by decide +kernel) rfl) pa_nil))))
          (pss_cons (ps_expr (pe_bm PySem.F.plainAttrs_list PySem.F.slot_list_append PySem.F.type_list_append mt_append (pv 0) (pa_cons (pe_ix ix_list (pv 1) pe_int (fun _ _ => rfl)) pa_nil)))
            (pss_one (ps_asg (pe_op op_add (pe_ix ix_list (pv 1) pe_int (fun _ _ => rfl)) pe_int) (pg_sub (pv 1) pe_int set_list)))) pss_nil)), ?_⟩
      refine ⟨_, rfl, (by show 2 ≤ sizeLine; decide), fun tp htp => ?_⟩
      rcases hD with ⟨rfl, hf⟩ | ⟨a, xs, ass, rfl, ha, hl, hl2, hd, rfl⟩
      · obtain ⟨t, ty, a1, a2⟩ := flat_not (K := K) (H := upd H tp (.tup [.ty "list", .ty "tuple"])) hf
        refine ⟨_, tp, _, t, _, false, rfl, upd_same, .cons (.ty _) (.cons (.ty _) .nil), ty, a1, _, rfl, iteF ?_⟩
        refine ⟨_, rfl, _, _, t, _, false, rfl, .ty _, ty, a2, _, rfl, iteF ?_⟩
        exact q _ k (Int.le_refl _) (by omega) ((upd_ne (ne_of_none h1 htp)).trans h1) (.inl ⟨rfl, hf⟩) fun b _ _ o e => (upd_ne (ne_of_none e htp)).trans e
      · obtain ⟨hrn, nd2⟩ := List.nodup_cons.mp nd
        obtain ⟨han, ndf⟩ := List.nodup_cons.mp nd2
        have hra : r ≠ a := fun e => hrn (by rw [e]; exact List.mem_cons_self)
        have hrf : r ∉ ass.flatten := fun e => hrn (List.mem_cons_of_mem _ e)
        have total : k + 1 + ass.flatten.length ≤ 1000 := by
          have z := h3
          rw [List.length_cons] at z
          omega
        obtain ⟨t, c, ty, a1, a2, cT, cF⟩ := kind_of (K := K) ha
        have hA : ∃ o, H a = some o := by
          rcases ha with e | e
          · exact ⟨_, e⟩
          · exact ⟨_, e⟩
        obtain ⟨oa, eoa⟩ := hA
        have hsq : ∀ {H' : Hp}, H' a = H a → SqL K H' a xs ∨ SqT K H' a xs := fun {H'} e => by
          rcases ha with z | z
          · exact .inl (SqL.of (e.trans z))
          · exact .inr (SqT.of (e.trans z))
        have eA1 : upd H tp (.tup [.ty "list", .ty "tuple"]) a = H a := upd_ne (ne_of_none eoa htp)
        refine ⟨_, tp, _, t, _, true, rfl, upd_same, .cons (.ty _) (.cons (.ty _) .nil), ty _ eA1, a1, _, rfl, iteT ?_⟩
        refine ⟨_, rfl, a, xs, rfl, hsq eA1, fun l hl0 => ⟨l, rfl, ⟨_, SqL.of upd_same⟩, ?_⟩⟩
        have keep1 : Same H (upd (upd H tp (.tup [.ty "list", .ty "tuple"])) l (.lst xs)) := (same_new htp).trans (same_new hl0)
        refine for_list (K := K) (a := l) (xs := xs) (fun i σ H' => ∃ (ki : Int) (vp : Option V), σ = [some (.ref a), some (.ref r), vp] ∧ H' l = some (.lst xs) ∧ H' a = H a ∧ H' r = some (.lst [.int ki]) ∧ k ≤ ki ∧ ki ≤ k + (ass.take i).flatten.length ∧
            (∀ j < xs.length, j < i → Dat 6 n H' (xs.getD j .non) (ass.getD j [])) ∧ (∀ j < xs.length, i ≤ j → Dat 5 n H' (xs.getD j .non) (ass.getD j [])) ∧ (∀ b, b ≠ r → b ∉ ass.flatten → ∀ o, upd (upd H tp (.tup [.ty "list", .ty "tuple"])) l (.lst xs) b = some o → H' b = some o))
          ⟨k, none, rfl, upd_same, ?_, keep1 _ _ h1, Int.le_refl _, by simp, fun j _ z => absurd z (Nat.not_lt_zero _), fun j hj _ => (hd j hj).frame fun b _ o e => keep1 b o e, fun b _ _ o e => e⟩
          (fun i σ H' _ ⟨ki, vp, _, e, _⟩ => SqL.of e) ?_ ?_
        · rw [keep1 _ _ eoa, eoa]
        · rintro i x σ H' hi ⟨ki, vp, rfl, hlst, hae, hre, hk1, hk2, hlo, hhi, hfr⟩
          obtain ⟨hil, rfl⟩ := List.getElem?_eq_some_iff.mp hi
          have hia : i < ass.length := by omega
          have ft := flat_take hia
          have fle := flat_le ass (i + 1)
          have gx : xs.getD i .non = xs[i] := by
            rw [List.getD_eq_getElem?_getD, List.getElem?_eq_getElem hil]
            rfl
          have hDi := hhi i hil (Nat.le_refl _)
          rw [gx] at hDi
          refine ⟨_, rfl, _, rfl, _, ass.getD i [], r, ki, rfl, hDi, List.nodup_cons.mpr ⟨fun e => hrf (mem_flat e), (List.pairwise_flatten.mp ndf).1 _ (getD_mem hia)⟩, hre, by omega, by omega, fun H'' k'' q1 q2 q3 q4 q5 => ?_⟩
          have hlA : l ∉ ass.getD i [] := fun e => by
            obtain ⟨o, eo⟩ := (hd i hil).has l e
            have z := same_new (o := .tup [.ty "list", .ty "tuple"]) htp l o eo
            rw [hl0] at z
            cases z
          have hlr : l ≠ r := fun e => by
            have z := same_new (o := .tup [.ty "list", .ty "tuple"]) htp r _ h1
            rw [← e, hl0] at z
            cases z
          refine ⟨k'', _, rfl, q5 l hlr hlA _ hlst, ?_, q3, by omega, by omega, fun j hj hji => ?_, fun j hj hji => ?_, fun b hb1 hb2 o e => q5 b hb1 (fun z => hb2 (mem_flat z)) o (hfr b hb1 hb2 o e)⟩
          · rw [← hae]
            have z := hae.trans eoa
            rw [q5 a (Ne.symm hra) (fun e => han (mem_flat e)) _ z, z]
          · by_cases e : j = i
            · subst e
              rw [gx]
              exact q4
            · exact (hlo j hj (by omega)).frame fun b hb o eo => q5 b (fun z => hrf (z ▸ mem_flat hb)) (fun z => apart_of ndf (by omega) hia e hb z) o eo
          · exact (hhi j hj (by omega)).frame fun b hb o eo => q5 b (fun z => hrf (z ▸ mem_flat hb)) (fun z => apart_of ndf (by omega) hia (by omega) hb z) o eo
        · rintro σ H' ⟨ki, vp, rfl, hlst, hae, hre, hk1, hk2, hlo, _, hfr⟩
          rw [List.take_of_length_le (by omega)] at hk2
          have hfr2 : ∀ b, b ≠ r → b ∉ a :: ass.flatten → ∀ o, H b = some o → H' b = some o := fun b x1 x2 o e => hfr b x1 (fun z => x2 (List.mem_cons_of_mem _ z)) o (keep1 b o e)
          refine ⟨_, rfl, _, _, t, _, c, rfl, .ty _, ty _ hae, a2, _, rfl, ?_⟩
          cases hc : c with
          | false =>
            refine iteF ?_
            refine q H' ki hk1 (by rw [List.length_cons]; omega) hre (.inr ⟨a, xs, ass, rfl, .inr (hae.trans (cF hc)), by omega, hl2, fun j hj => hlo j hj hj, rfl⟩) hfr2
          | true =>
            refine iteT ?_
            have hal : H' a = some (.lst xs) := hae.trans (cT hc)
            refine ⟨_, rfl, .inl ⟨rfl, _, SqL.of hal⟩, _, rfl, r, _, _, _, rfl, rfl, SqL.of hre, rfl, a, _, _, rfl, rfl, hal, Nat.lt_of_le_of_lt hl (by decide), ?_⟩
            have hr2 : upd H' a (.lst (xs ++ [.int ki])) r = some (.lst [.int ki]) := (upd_ne hra).trans hre
            refine ⟨_, rfl, r, _, _, _, rfl, rfl, SqL.of hr2, rfl, _, _, rfl, rfl, _, rfl, r, _, _, 0, rfl, rfl, hr2, rfl, ?_⟩
            refine q _ (ki + 1) (by omega) (by rw [List.length_cons]; omega) upd_same (.inr ⟨a, xs ++ [.int ki], ass ++ [[]], rfl, .inl ((upd_ne (Ne.symm hra)).trans upd_same), ?_, ?_, fun j hj => ?_, ?_⟩) fun b x1 x2 o e => ?_
            · rw [List.length_append]
              show xs.length + 1 ≤ 6
              omega
            · rw [List.length_append, List.length_append, hl2] <;> rfl
            · by_cases e : j < xs.length
              · rw [getD_left e, getD_left (by omega)]
                exact (hlo j e e).frame fun b hb o eo => (upd_ne (fun z => hrf (by rw [← z]; exact mem_flat hb))).trans ((upd_ne (fun z => han (by rw [← z]; exact mem_flat hb))).trans eo)
              · have ej : j = xs.length := by
                  rw [List.length_append] at hj
                  have : j < xs.length + 1 := hj
                  omega
                subst ej
                rw [getD_end rfl, getD_end hl2.symm]
                exact Dat.flat (.inr (.inr (.inl ⟨ki, rfl, by omega⟩)))
            · simp
            · exact (upd_ne x1).trans ((upd_ne (fun z => x2 (by rw [z]; exact List.mem_cons_self))).trans (hfr2 b x1 x2 o e))
end
end K0

set_option Elab.async false
set_option linter.all false
set_option maxRecDepth 100000
set_option maxHeartbeats 8000000
namespace L2
open PySem PySem.Spec PyProof.Rows PySem.HouseX
section
variable {X : Cx}
/-- repr(x), x any data -/
def rRepr (K : PySem.W.Frag) : List V → Hp → VK → Prop := fun xs H Q => ∃ (x : V) (d : PyData), xs = [x] ∧ Dp K H x d ∧ d.showable = true ∧ d.hasDict = false ∧ d.depth ≤ 60 ∧ d.shown.length ≤ sizeLine ∧ Q (.str d.shown) H
theorem call_repr (hg : X.A.guards = some []) (hu : X.A.units + 65 < cLine) : CallR X (.builtin "repr") (rRepr X.K) := by
  intro pins s σ H xs us Q I r h
  obtain ⟨x, d, rfl, hd, hs, hn, hdep, hsz, q⟩ := h
  cases hi : isDisplay d with
  | true => exact call_reprD hg hu pins s σ H [x] us Q I r ⟨x, d, rfl, hd, hs, hn, hi, hdep, hsz, q⟩
  | false =>
    obtain ⟨u, rfl, ru⟩ := vals1 r
    cases hd with
    | non =>
      obtain rfl : u = Value.none := ru
      exact PySem.P.repr_of_none ⟨.str _, H, I.tok _, ⟨_, rfl⟩, q⟩
    | bl b =>
      obtain rfl : u = Value.bool b := ru
      exact PySem.P.repr_of_bool ⟨.str _, H, I.tok _, ⟨_, rfl⟩, q⟩
    | int i =>
      obtain ⟨t, rfl⟩ := ru
      exact PySem.P.repr_of_int (of_decide_eq_true hs) ⟨.str _, H, I.tok _, ⟨_, rfl⟩, q⟩
    | str x =>
      obtain ⟨t, rfl⟩ := ru
      exact PySem.P.repr_of_str ⟨.str _, H, I.tok _, ⟨_, rfl⟩, q⟩ hsz
    | lst _ _ => cases hi
    | tup _ _ => cases hi
end
end L2
namespace K0
open PySem L2 PySem.HouseX
/-! ### things made one behind the other -/
theorem Dat.up {m : Nat} {H : Hp} : ∀ {n : Nat} {v : V} {as : List Addr}, Dat m n H v as → Dat m (n + 1) H v as
  | 0, v, as, h => .inl h
  | n + 1, v, as, h => by
    rcases h with h | ⟨a, xs, ass, rfl, ha, hl, hl2, hd, rfl⟩
    · exact .inl h
    · exact .inr ⟨a, xs, ass, rfl, ha, hl, hl2, fun j hj => (hd j hj).up, rfl⟩
/-- v is a thing whose places are newer than B -/
structure Th (n : Nat) (B H : Hp) (v : V) (as : List Addr) : Prop where
  dat : Dat 5 n H v as
  nd : as.Nodup
  fresh : ∀ b ∈ as, B b = none
theorem Th.flat {n : Nat} {B H : Hp} {v : V} (h : Flat v) : Th n B H v [] := ⟨Dat.flat h, List.nodup_nil, fun b hb => nomatch hb⟩
theorem Th.keep {n : Nat} {B H H' : Hp} {v : V} {as : List Addr} (t : Th n B H v as) (k : ∀ b, B b = none → ∀ o, H b = some o → H' b = some o) : Th n B H' v as :=
  ⟨t.dat.frame fun b hb o e => k b (t.fresh b hb) o e, t.nd, t.fresh⟩
theorem Th.same {n : Nat} {B H H' : Hp} {v : V} {as : List Addr} (t : Th n B H v as) (k : Same H H') : Th n B H' v as := t.keep fun b _ o e => k b o e
theorem Th.up {n : Nat} {B H : Hp} {v : V} {as : List Addr} (t : Th n B H v as) : Th (n + 1) B H v as := ⟨t.dat.up, t.nd, t.fresh⟩
/-- what is new in H is new in B -/
def Grow (B H : Hp) : Prop := ∀ b, H b = none → B b = none
theorem Grow.of {B H : Hp} (k : Same B H) : Grow B H := fun _ h => k.free h
theorem Th.old {n : Nat} {B B' H : Hp} {v : V} {as : List Addr} (t : Th n B H v as) (k : Grow B' B) : Th n B' H v as := ⟨t.dat, t.nd, fun b hb => k b (t.fresh b hb)⟩
theorem Th.not {n : Nat} {B H : Hp} {v : V} {as : List Addr} {p : Addr} (t : Th n B H v as) (hp : H p = none) : p ∉ as := fun e => by
  obtain ⟨u, z⟩ := t.dat.has p e
  rw [hp] at z
  cases z
theorem Th.set {n : Nat} {B H H' : Hp} {v : V} {as : List Addr} {p : Addr} (t : Th n B H v as) (hn : p ∉ as) (q : ∀ b, b ≠ p → H' b = H b) : Th n B H' v as :=
  ⟨t.dat.frame fun b hb o e => (q b fun z => hn (by rw [← z]; exact hb)).trans e, t.nd, t.fresh⟩
theorem Th.pick {n : Nat} {B H H' : Hp} {v : V} {as : List Addr} {p : Addr} {o : HO} (t : Th n B H v as) (hB : B p = some o) (q : ∀ b, b ≠ p → H' b = H b) : Th n B H' v as :=
  t.set (fun e => by
    have z := t.fresh p e
    rw [hB] at z
    cases z) q
theorem th_two {n : Nat} {B B2 H : Hp} {x y : V} {as bs : List Addr} {p : Addr} {o : HO} (tx : Th n B B2 x as) (ty : Th n B2 H y bs) (h1 : Grow B B2) (h2 : Same B2 H) (hp : H p = none) (ho : o = .lst [x, y] ∨ o = .tup [x, y]) :
    Th (n + 1) B (upd H p o) (.ref p) (p :: (as ++ bs)) := by
  have dx : Dat 5 n (upd H p o) x as := (tx.same (h2.trans (same_new hp))).dat
  have dy : Dat 5 n (upd H p o) y bs := (ty.same (same_new hp)).dat
  have tr : ∀ b ∈ as ++ bs, ∃ u, H b = some u := fun b hb => by
    rcases List.mem_append.mp hb with z | z
    · exact (tx.same h2).dat.has b z
    · exact ty.dat.has b z
  refine ⟨.inr ⟨p, [x, y], [as, bs], rfl, ?_, (by show 2 ≤ 5; decide), rfl, fun j hj => ?_, by simp⟩, List.nodup_cons.mpr ⟨fun e => ?_, List.nodup_append.mpr ⟨tx.nd, ty.nd, fun a ha b hb e => ?_⟩⟩, fun b hb => ?_⟩
  · rcases ho with rfl | rfl
    · exact .inl upd_same
    · exact .inr upd_same
  · match j, hj with
    | 0, _ => exact dx
    | 1, _ => exact dy
    | j + 2, hj => exact absurd hj (by show ¬ j + 2 < 2; omega)
  · obtain ⟨u, z⟩ := tr p e
    rw [hp] at z
    cases z
  · subst e
    obtain ⟨u, z⟩ := tx.dat.has a ha
    rw [ty.fresh a hb] at z
    cases z
  · rcases List.mem_cons.mp hb with z | z
    · rw [z]
      exact h1 _ (h2.free hp)
    · rcases List.mem_append.mp z with z | z
      · exact tx.fresh b z
      · exact h1 _ (ty.fresh b z)
theorem th_one {n : Nat} {B H : Hp} {x : V} {as : List Addr} {p : Addr} {o : HO} (tx : Th n B H x as) (h1 : Grow B H) (hp : H p = none) (ho : o = .lst [x] ∨ o = .tup [x]) : Th (n + 1) B (upd H p o) (.ref p) (p :: as) := by
  have dx : Dat 5 n (upd H p o) x as := (tx.same (same_new hp)).dat
  refine ⟨.inr ⟨p, [x], [as], rfl, ?_, (by show 1 ≤ 5; decide), rfl, fun j hj => ?_, by simp⟩, List.nodup_cons.mpr ⟨fun e => ?_, tx.nd⟩, fun b hb => ?_⟩
  · rcases ho with rfl | rfl
    · exact .inl upd_same
    · exact .inr upd_same
  · match j, hj with
    | 0, _ => exact dx
    | j + 1, hj => exact absurd hj (by show ¬ j + 1 < 1; omega)
  · obtain ⟨u, z⟩ := tx.dat.has p e
    rw [hp] at z
    cases z
  · rcases List.mem_cons.mp hb with z | z
    · rw [z]
      exact h1 _ hp
    · exact tx.fresh b z
theorem th_none {n : Nat} {B H : Hp} {p : Addr} (h1 : Grow B H) (hp : H p = none) : Th (n + 1) B (upd H p (.lst [])) (.ref p) [p] :=
  ⟨.inr ⟨p, [], [], rfl, .inl upd_same, by decide, rfl, fun j hj => absurd hj (Nat.not_lt_zero _), by simp⟩, by simp, fun b hb => by
    rw [List.mem_singleton.mp hb]
    exact h1 _ hp⟩
theorem SackAt.same {H H' : Hp} {p : Addr} {n : Nat} (h : SackAt H p n) (k : Same H H') : SackAt H' p n := by
  obtain ⟨a, b, c, e, r⟩ := h
  exact ⟨a, b, c, k _ _ e, r⟩
theorem SackAt.has {H : Hp} {p : Addr} {n : Nat} (h : SackAt H p n) : ∃ o, H p = some o := by
  obtain ⟨a, b, c, e, r⟩ := h
  exact ⟨_, e⟩
theorem Grow.trans {A B C : Hp} (h : Grow A B) (k : Grow B C) : Grow A C := fun b e => h b (k b e)
/-- a heap in which p alone was written anew -/
theorem Grow.pick {B H H' : Hp} {p : Addr} {o : HO} (h : Grow B H) (hp : H' p = some o) (q : ∀ b, b ≠ p → H' b = H b) : Grow B H' := fun b e => h b (by
  rw [← q b fun z => by rw [z, hp] at e; cases e]
  exact e)
end K0

set_option Elab.async false
set_option linter.all false
set_option maxRecDepth 100000
set_option maxHeartbeats 8000000
namespace K0
open PySem L2 PySem.HouseX
def N9 : List Str := ["_law_sack", "_law_number", "_law_things", "_law_thing", "_law_second", "_law_rank", "_law_other_rank", "_law_elder", "_law_caught", "_law_error"]
structure TxtL (K : PySem.W.Frag) (mg : Str → Option Value) (fP fM fR fK : Addr) : Prop where
  repr : mg "repr" = none
  sorted : mg "sorted" = none
  set : mg "set" = none
  isi : mg "isinstance" = none
  val : mg "ValueError" = none
  gP : mg "_law_hd_pick" = some (.ref fP)
  gM : mg "_law_hd_made_error" = some (.ref fM)
  gR : mg "_law_hd_ranks" = some (.ref fR)
  gK : mg "_law_hd_of_kinds" = some (.ref fK)
def spRight : Sp := fun vs H Q _ => ∃ (p : Addr), vs = [.ref p] ∧ SackAt H p 0 ∧ ∀ H', (∀ b, b ≠ p → ∀ o, H b = some o → H' b = some o) → Q (.bl true) H'
theorem text_fits {z : Int} (h0 : 0 ≤ z) (h1 : z < 4) : (reprText (cutS "x y" none (some z))).length ≤ 100 := by
  have h : z = 0 ∨ z = 1 ∨ z = 2 ∨ z = 3 := by omega
  rcases h with rfl | rfl | rfl | rfl <;> decide +kernel
theorem on_end (A : Prop) {B : Prop} (h : A) (e : A = B := by rfl) : B := e ▸ h
theorem new_err {H : Hp} {e d : Addr} {x y : HO} (hd : H d = none) (he : H e = none) (ne : e ≠ d) : Same H (upd (upd H d x) e y) :=
  (same_new hd).trans (same_new ((upd_ne ne).trans he))
theorem sorted_ext : ∀ {a b : List Int}, a.Pairwise (· < ·) → b.Pairwise (· < ·) → (∀ k, k ∈ a ↔ k ∈ b) → a = b
  | [], [], _, _, _ => rfl
  | [], y :: b, _, _, h => nomatch (h y).2 List.mem_cons_self
  | x :: a, [], _, _, h => nomatch (h x).1 List.mem_cons_self
  | x :: a, y :: b, ha, hb, h => by
    obtain ⟨h1, h2⟩ := List.pairwise_cons.mp ha
    obtain ⟨h3, h4⟩ := List.pairwise_cons.mp hb
    have e : x = y := by
      rcases List.mem_cons.mp ((h x).1 List.mem_cons_self) with z | z
      · exact z
      · rcases List.mem_cons.mp ((h y).2 List.mem_cons_self) with q | q
        · exact q.symm
        · have := h3 x z
          have := h1 y q
          omega
    subst e
    congr 1
    refine sorted_ext h2 h4 fun k => ⟨fun hk => ?_, fun hk => ?_⟩
    · rcases List.mem_cons.mp ((h k).1 (List.mem_cons_of_mem _ hk)) with z | z
      · have := h1 k hk
        omega
      · exact z
    · rcases List.mem_cons.mp ((h k).2 (List.mem_cons_of_mem _ hk)) with z | z
      · have := h3 k hk
        omega
      · exact z
theorem kinds_sorted (r n : Nat) : (kindsUpTo r n).Pairwise (· < ·) := by
  unfold kindsUpTo
  rw [List.pairwise_map]
  refine List.Pairwise.imp (R := fun a b : Nat => a < b) (fun h => by omega) ?_
  exact List.Pairwise.filter _ List.pairwise_lt_range
theorem kinds_mem {r : Nat} (hr : r < 19) {k : Int} : k ∈ kindsUpTo r 19 ↔ (k = 0 ∨ k = (r : Int)) := by
  unfold kindsUpTo kb
  simp only [List.mem_map, List.mem_filter, List.mem_range, Bool.or_eq_true, decide_eq_true_eq]
  constructor
  · rintro ⟨i, ⟨_, h⟩, rfl⟩
    omega
  · rintro (rfl | rfl)
    · exact ⟨0, ⟨by decide, .inr rfl⟩, rfl⟩
    · exact ⟨r, ⟨hr, .inl rfl⟩, rfl⟩
theorem dp_ints (K : PySem.W.Frag) (H : Hp) : ∀ {ns : List Int}, DpAll K H (ns.map V.int) (ns.map PyData.int)
  | [] => .nil
  | n :: ns => .cons (.int n) (dp_ints K H)
theorem lay_ints : ∀ ns : List Int, PyData.canLayAll0 (ns.map PyData.int) = true
  | [] => by simp [PyData.canLayAll0]
  | n :: ns => by simp [PyData.canLayAll0, PyData.canLay0, lay_ints ns]
theorem depth_ints : ∀ ns : List Int, PyData.depthAll (ns.map PyData.int) ≤ 1
  | [] => by simp [PyData.depthAll]
  | n :: ns => by
    have := depth_ints ns
    simp only [List.map_cons, PyData.depthAll, PyData.depth]
    omega
theorem shaped_ints (ns : List Int) : SeqAt.shaped (.list (ns.map PyData.int)) = true := by
  have h1 := depth_ints ns
  have h2 : PyData.depth (.list (ns.map PyData.int)) ≤ 64 := by
    simp only [PyData.depth]
    omega
  have h3 : PyData.canLay0 (.list (ns.map PyData.int)) = true := by
    simp only [PyData.canLay0]
    exact lay_ints ns
  show (PyData.canLay0 (.list (ns.map PyData.int)) && decide (PyData.depth (.list (ns.map PyData.int)) ≤ 64)) = true
  rw [h3, decide_eq_true h2]
  rfl
theorem Fam.val {K : PySem.W.Frag} {mg : Str → Option Value} {cl : Nat → Addr} {fI : Addr} (T : Fam K mg cl fI) {r : Nat} (hr : r < 19) : PySem.W.kitOne K (.ref (cl r)) (.type "ValueError") = some true := by
  rw [(T.err r hr).kitTy (by decide +kernel)]
  by_cases z : r = 0
  · rw [if_pos z]
    rfl
  · rw [if_neg z]
    rfl
section
variable {P : Program} {w : World} {K : PySem.W.Frag} {mg : Str → Option Value} {base : Heap} {cl : Nat → Addr} {fI fP fM fR fK : Addr} {fdP fdM fdR fdK : FuncData}
theorem scRight : FnScope N9 ["_law_sack"] (defScope sRight) := ⟨rfl, rfl, rfl, by decide +kernel, rfl, by decide +kernel, by decide +kernel⟩
theorem ok_right {f : Addr} {fd : FuncData} (F : Fun K "_law_right" "_law_right" sRight f fd) (T : Fam K mg cl fI) (L : TxtL K mg fP fM fR fK)
    (GP : FnOk P w K mg base CX0 1 fP fdP ["_law_sack", "_law_many"] spPick) (kP : PySem.W.keepIn K (.ref fP) = true) (bP : Binds K fdP ["_law_sack", "_law_many"] [])
    (GM : FnOk P w K mg base CX0 3 fM fdM ["_law_rank", "_law_thing", "_law_is_named"] (spMade cl 19)) (kM : PySem.W.keepIn K (.ref fM) = true) (bM : Binds K fdM ["_law_rank", "_law_thing", "_law_is_named"] [])
    (GR : FnOk P w K mg base CX0 6 fR fdR ["_law_thing", "_law_ranks"] (spRanks 5)) (kR : PySem.W.keepIn K (.ref fR) = true) (bR : Binds K fdR ["_law_thing", "_law_ranks"] [])
    (GK : FnOk P w K mg base CX0 1 fK fdK ["_law_caught"] (spKinds cl)) (kK : PySem.W.keepIn K (.ref fK) = true) (bK : Binds K fdK ["_law_caught"] []) : FnG P w K mg base 7 f fd ["_law_sack"] spRight := by
  refine F.okG scRight (fun vs H Q E h => ?_) (fun cdv A outer s H vs Q E hgd hr h => ?_)
  · obtain ⟨p, rfl, _⟩ := h
    rfl
  · obtain ⟨sk, rfl, hsk, k⟩ := h
    have r1 : Room 1 _ := hr.mono (by decide)
    have r3 : Room 3 _ := hr.mono (by decide)
    have hu : (A.deeper (PyProof.Rows.envOfC "_law_right" (defScope sRight) s.heap.objs.size f cdv)).units + 65 < cLine := by
      have := hr.un
      omega
    have nd := scRight.nd
    refine ⟨_,
      pss_cons (ps_set (i := 1) nd rfl (Or.inl rfl) (pe_op op_sub (pe_call GP r1 rfl L.gP kP bP .nil pass0 (pa_cons (pv 0) (pa_cons (pe_op op_add (pe_op op_mul pe_int (pe_op op_pow pe_int pe_int)) pe_int) pa_nil))) (pe_op op_pow pe_int pe_int)))
      (pss_cons (ps_set (i := 2) nd rfl (Or.inl rfl) (pe_lst (pa_cons (pv 1) (pa_cons (pe_lst (pa_cons (pv 1) pa_nil)) (pa_cons (pe_lst (pa_cons (pe_lst (pa_cons (pv 1) pa_nil)) (pa_cons pe_int pa_nil)))
          (pa_cons (pe_slice sl_str pe_str po_none (po_some (pe_call GP r1 rfl L.gP kP bP .nil pass0 (pa_cons (pv 0) (pa_cons pe_int pa_nil)))))
          (pa_cons pe_non (pa_cons pe_bl (pa_cons (pe_tup (pa_cons (pv 1) (pa_cons (pe_lst (pa_cons pe_int pa_nil)) pa_nil))) (pa_cons (pe_lst pa_nil) pa_nil))))))))))
      (pss_cons (ps_expr (pe_bm PySem.F.plainAttrs_list PySem.F.slot_list_append PySem.F.type_list_append mt_append (pv 2)
          (pa_cons (pe_tup (pa_cons (pe_lst (pa_cons pe_int (pa_cons pe_int pa_nil))) (pa_cons (pe_lst
            (pa_cons (pe_tup (pa_cons (pe_lst (pa_cons (pe_lst (pa_cons (pv 1) pa_nil)) pa_nil)) (pa_cons (pe_lst (pa_cons pe_int pa_nil)) pa_nil)))
            (pa_cons (pe_tup (pa_cons (pe_lst (pa_cons (pe_lst (pa_cons pe_int pa_nil)) pa_nil)) (pa_cons (pe_lst (pa_cons (pv 1) pa_nil)) pa_nil))) pa_nil))) pa_nil))) pa_nil)))
      (pss_cons (ps_par (i := 3) (j := 4) (by rfl) nd rfl rfl (by decide) rfl rfl (pa_cons (pe_ix ix_list (pv 2) (pe_call GP r1 rfl L.gP kP bP .nil pass0 (pa_cons (pv 0) (pa_cons pe_int pa_nil))) (fun _ _ => rfl)) (pa_cons (pe_lst (pa_cons (pv 1) (pa_cons pe_int pa_nil))) pa_nil)) (by rfl))
      (pss_cons (ps_par (i := 5) (j := 6) (by rfl) nd rfl rfl (by decide) rfl rfl (pa_cons (pe_call GP r1 rfl L.gP kP bP .nil pass0 (pa_cons (pv 0) (pa_cons pe_int pa_nil))) (pa_cons (pe_call GP r1 rfl L.gP kP bP .nil pass0 (pa_cons (pv 0) (pa_cons pe_int pa_nil))) pa_nil)) (by rfl))
      (pss_cons (ps_set (i := 7) nd rfl (Or.inl rfl) (pe_call GM r3 rfl L.gM kM bM .nil pass0 (pa_cons (pv 5) (pa_cons (pv 3) (pa_cons (pe_cmpR op_eq (pe_call GP r1 rfl L.gP kP bP .nil pass0 (pa_cons (pv 0) (pa_cons pe_int pa_nil))) pe_int (nomark _)) pa_nil)))))
      (pss_cons (ps_set (i := 8) nd rfl (Or.inl rfl) (pe_call GM r3 rfl L.gM kM bM .nil pass0 (pa_cons (pv 6) (pa_cons (pv 4) (pa_cons (pe_cmpR op_eq (pe_call GP r1 rfl L.gP kP bP .nil pass0 (pa_cons (pv 0) (pa_cons pe_int pa_nil))) pe_int (nomark _)) pa_nil)))))
      (pss_cons (ps_expr (pe_call GR hr rfl L.gR kR bR .nil pass0 (pa_cons (pv 3) (pa_cons (pe_lst (pa_cons pe_int pa_nil)) pa_nil))))
      (pss_cons (ps_expr (pe_bm PySem.F.plainAttrs_list PySem.F.slot_list_append PySem.F.type_list_append mt_append (pv 4) (pa_cons pe_int pa_nil)))
      (pss_cons (ps_if (PW.pt (pw_or (pt_cmpR op_ne (pe_callB (call_repr hgd hu) (by rfl) L.repr (by decide +kernel) (pa_cons (pe_value (pv 7)) pa_nil)) (pe_callB (call_repr hgd hu) (by rfl) L.repr (by decide +kernel) (pa_cons (pv 3) pa_nil)) (nomark _))
          (pw_or1 (pt_cmpR op_ne (pe_callB (call_repr hgd hu) (by rfl) L.repr (by decide +kernel) (pa_cons (pe_value (pv 8)) pa_nil)) (pe_callB (call_repr hgd hu) (by rfl) L.repr (by decide +kernel) (pa_cons (pv 4) pa_nil)) (nomark _)))))
          (pss_one (ps_ret pe_bl)) pss_nil)
      (pss_cons (ps_for PassesOwn.never rfl (pi_tup (pe_tup (pa_cons (pe_tup (pa_cons (pv 7) (pa_cons (pv 5) pa_nil))) (pa_cons (pe_tup (pa_cons (pv 8) (pa_cons (pv 6) pa_nil))) pa_nil))))
          (pg_tup rfl (pgs_cons (pg_name (i := 9) nd rfl (Or.inl rfl)) (pgs_cons (pg_name (i := 1) nd rfl (Or.inl rfl)) pgs_nil)))
          (pss_cons (ps_if (pt_cmpR (op_neD hr.units) (pe_call GK r1 rfl L.gK kK bK .nil pass0 (pa_cons (pv 9) pa_nil))
              (pe_callB (cr_sortedSet rfl) (by rfl) L.sorted (by decide +kernel) (pa_cons (pe_callTy (cr_setOfL rfl) (by rfl) L.set (by decide +kernel) (pa_cons (pe_lst (pa_cons pe_int (pa_cons (pv 1) pa_nil))) pa_nil)) pa_nil)) (nomark _)) (pss_one (ps_ret pe_bl)) pss_nil)
          (pss_one (ps_if (PW.pt (pw_or (pt_not (pt_val (pe_callB call_isErr (by rfl) L.isi (by decide +kernel) (pa_cons (pv 9) (pa_cons (pe_bltn (v := .ty "ValueError") (by rfl) L.val (by decide +kernel) rfl) pa_nil)))))
              (pw_or1 (pt_not (pt_val (pe_callB call_isErr (by rfl) L.isi (by decide +kernel) (pa_cons (pv 9) (pa_cons (pe_glob (v := .ref (cl 0)) rfl (T.glob 0 (by decide)) rfl) pa_nil)))))))) (pss_one (ps_ret pe_bl)) pss_nil))))
      (pss_one (ps_ret pe_bl)))))))))))), ?_⟩
    refine ⟨_, rfl, _, _, rfl, rfl, ⟨by decide, by decide, by decide⟩, _, _, rfl, rfl, .inl ⟨by decide, by decide⟩, _, _, rfl, rfl, sk, 0, _, rfl, hsk, by decide, by decide, by decide, fun H1 z hz0 hz1 q1 hs1 => ?_⟩
    refine ⟨_, _, rfl, rfl, ⟨by decide, by decide, by decide⟩, _, _, rfl, rfl, ?_⟩
    obtain ⟨num, hnum⟩ : ∃ num : Int, z - 10 ^ Int.toNat 30 = num := ⟨_, rfl⟩
    have hnb : num.natAbs < 2 ^ 200 := by
      have e1 : z < 2 * 10 ^ 30 + 1 := hz1
      have e2 : z - 10 ^ 30 = num := hnum
      refine Nat.lt_of_le_of_lt (show num.natAbs ≤ 10 ^ 30 from ?_) (by decide)
      omega
    have fnum : Flat (.int num) := .inr (.inr (.inl ⟨num, rfl, hnb⟩))
    have f0 : ∀ i : Int, i.natAbs < 1000 → Flat (.int i) := fun i h => .inr (.inr (.inl ⟨i, rfl, Nat.lt_trans h (by decide)⟩))
    simp only [hnum]
    have hs1 : SackAt H1 sk 1 := hs1
    obtain ⟨osk, esk⟩ := hs1.has
    -- things = [number, [number], [[number], 0], 'x y'[:..], None, True, (number, [1]), []]
    refine ⟨_, rfl, _, rfl, (by show 1 ≤ sizeLine; decide), fun a1 ha1 => ?_⟩
    have t1 : Th 1 H1 (upd H1 a1 (.lst [.int num])) (.ref a1) _ := th_one (Th.flat fnum) (Grow.of (Same.refl _)) ha1 (.inl rfl)
    have s1 := same_new (o := .lst [.int num]) ha1
    generalize upd H1 a1 (.lst [.int num]) = G1 at *
    refine ⟨_, rfl, (by show 1 ≤ sizeLine; decide), fun a2 ha2 => ?_⟩
    have t2 : Th 1 G1 (upd G1 a2 (.lst [.int num])) (.ref a2) _ := th_one (Th.flat fnum) (Grow.of (Same.refl _)) ha2 (.inl rfl)
    have s2 := same_new (o := .lst [.int num]) ha2
    generalize upd G1 a2 (.lst [.int num]) = G2 at *
    refine ⟨(by show 2 ≤ sizeLine; decide), fun a3 ha3 => ?_⟩
    have t3 : Th 2 G1 (upd G2 a3 (.lst [.ref a2, .int 0])) (.ref a3) _ := th_two t2 (Th.flat (B := G2) (f0 0 (by decide))) (Grow.of s2) (Same.refl _) ha3 (.inl rfl)
    have s3 := same_new (o := .lst [.ref a2, .int 0]) ha3
    generalize upd G2 a3 (.lst [.ref a2, .int 0]) = G3 at *
    have s03 : Same H1 G3 := (s1.trans s2).trans s3
    have hs3 := hs1.same s03
    refine ⟨_, rfl, sk, 1, _, rfl, hs3, by decide, by decide, by decide, fun G4 z4 z40 z41 q4 hs4 => ⟨_, rfl, _, rfl, by decide, ?_⟩⟩
    have c4 := text_fits z40 z41
    generalize cutS "x y" none (some z4) = txt at *
    have hs4 : SackAt G4 sk 2 := hs4
    obtain ⟨o4, e4⟩ := hs4.has
    have g14 : Grow H1 G4 := (Grow.of s03).pick e4 q4
    have b1k : ∀ {B : Hp}, Same H1 B → ∃ o, B sk = some o := fun {B} k => ⟨_, k _ _ esk⟩
    have t1' : Th 1 H1 G4 _ _ := (t1.same (s2.trans s3)).pick esk q4
    have t3' : Th 2 H1 G4 _ _ := ((t3.old (Grow.of s1)).pick esk q4)
    refine ⟨_, rfl, (by show 1 ≤ sizeLine; decide), fun a4 ha4 => ?_⟩
    have t4 : Th 1 G4 (upd G4 a4 (.lst [.int 1])) (.ref a4) _ := th_one (Th.flat (f0 1 (by decide))) (Grow.of (Same.refl _)) ha4 (.inl rfl)
    have s4 := same_new (o := .lst [.int 1]) ha4
    generalize upd G4 a4 (.lst [.int 1]) = G5 at *
    refine ⟨(by show 2 ≤ sizeLine; decide), fun a5 ha5 => ?_⟩
    have t5 : Th 2 H1 (upd G5 a5 (.tup [.int num, .ref a4])) (.ref a5) _ := th_two (B2 := G4) (Th.flat fnum) t4 g14 s4 ha5 (.inr rfl)
    have s5 := same_new (o := .tup [.int num, .ref a4]) ha5
    generalize upd G5 a5 (.tup [.int num, .ref a4]) = G6 at *
    refine ⟨(by show 0 ≤ sizeLine; decide), fun a6 ha6 => ?_⟩
    have t6 : Th 1 G6 (upd G6 a6 (.lst [])) (.ref a6) _ := th_none (Grow.of (Same.refl _)) ha6
    have s6 := same_new (o := .lst []) ha6
    generalize upd G6 a6 (.lst []) = G7 at *
    refine ⟨(by show 8 ≤ sizeLine; decide), fun l hl => ?_⟩
    have l1 := t1'.same ((s4.trans s5).trans s6)
    have l3 := t3'.same ((s4.trans s5).trans s6)
    have l5 := t5.same s6
    have l6 := (t6.old ((g14.trans (Grow.of s4)).trans (Grow.of s5)))
    have s7 := same_new (o := .lst [.int num, .ref a1, .ref a3, .str txt, .non, .bl true, .ref a5, .ref a6]) hl
    have n1 := l1.not hl
    have n3 := l3.not hl
    have n5 := l5.not hl
    have n6 := l6.not hl
    have atl : upd G7 l (.lst [.int num, .ref a1, .ref a3, .str txt, .non, .bl true, .ref a5, .ref a6]) l = some (.lst [.int num, .ref a1, .ref a3, .str txt, .non, .bl true, .ref a5, .ref a6]) := upd_same
    generalize upd G7 l (.lst [.int num, .ref a1, .ref a3, .str txt, .non, .bl true, .ref a5, .ref a6]) = K0 at *
    have s47 : Same G4 K0 := ((s4.trans s5).trans s6).trans s7
    have g1K : Grow H1 K0 := g14.trans (Grow.of s47)
    refine ⟨_, rfl, .inl ⟨rfl, _, SqL.of atl⟩, (by show 2 ≤ sizeLine; decide), fun b1 hb1 => ?_⟩
    have tb1 : Th 1 K0 (upd K0 b1 (.lst [.int 1, .int 2])) (.ref b1) _ := th_two (Th.flat (B := K0) (f0 1 (by decide))) (Th.flat (B := K0) (f0 2 (by decide))) (Grow.of (Same.refl _)) (Same.refl _) hb1 (.inl rfl)
    have sb1 := same_new (o := .lst [.int 1, .int 2]) hb1
    generalize upd K0 b1 (.lst [.int 1, .int 2]) = K1 at *
    refine ⟨_, rfl, (by show 1 ≤ sizeLine; decide), fun b2 hb2 => ?_⟩
    have tb2 : Th 1 K1 (upd K1 b2 (.lst [.int num])) (.ref b2) _ := th_one (Th.flat fnum) (Grow.of (Same.refl _)) hb2 (.inl rfl)
    have sb2 := same_new (o := .lst [.int num]) hb2
    generalize upd K1 b2 (.lst [.int num]) = K2 at *
    refine ⟨(by show 1 ≤ sizeLine; decide), fun b3 hb3 => ?_⟩
    have tb3 : Th 2 K1 (upd K2 b3 (.lst [.ref b2])) (.ref b3) _ := th_one tb2 (Grow.of sb2) hb3 (.inl rfl)
    have sb3 := same_new (o := .lst [.ref b2]) hb3
    generalize upd K2 b3 (.lst [.ref b2]) = K3 at *
    refine ⟨(by show 1 ≤ sizeLine; decide), fun b4 hb4 => ?_⟩
    have tb4 : Th 1 K3 (upd K3 b4 (.lst [.int 0])) (.ref b4) _ := th_one (Th.flat (f0 0 (by decide))) (Grow.of (Same.refl _)) hb4 (.inl rfl)
    have sb4 := same_new (o := .lst [.int 0]) hb4
    generalize upd K3 b4 (.lst [.int 0]) = K4 at *
    refine ⟨(by show 2 ≤ sizeLine; decide), fun b5 hb5 => ?_⟩
    have tb5 : Th 3 K1 (upd K4 b5 (.tup [.ref b3, .ref b4])) (.ref b5) _ := th_two tb3 tb4.up (Grow.of (sb2.trans sb3)) sb4 hb5 (.inr rfl)
    have sb5 := same_new (o := .tup [.ref b3, .ref b4]) hb5
    generalize upd K4 b5 (.tup [.ref b3, .ref b4]) = K5 at *
    refine ⟨(by show 1 ≤ sizeLine; decide), fun b6 hb6 => ?_⟩
    have tb6 : Th 1 K5 (upd K5 b6 (.lst [.int 1])) (.ref b6) _ := th_one (Th.flat (f0 1 (by decide))) (Grow.of (Same.refl _)) hb6 (.inl rfl)
    have sb6 := same_new (o := .lst [.int 1]) hb6
    generalize upd K5 b6 (.lst [.int 1]) = K6 at *
    refine ⟨(by show 1 ≤ sizeLine; decide), fun b7 hb7 => ?_⟩
    have tb7 : Th 2 K5 (upd K6 b7 (.lst [.ref b6])) (.ref b7) _ := th_one tb6 (Grow.of sb6) hb7 (.inl rfl)
    have sb7 := same_new (o := .lst [.ref b6]) hb7
    generalize upd K6 b7 (.lst [.ref b6]) = K7 at *
    refine ⟨_, rfl, (by show 1 ≤ sizeLine; decide), fun b8 hb8 => ?_⟩
    have tb8 : Th 1 K7 (upd K7 b8 (.lst [.int num])) (.ref b8) _ := th_one (Th.flat fnum) (Grow.of (Same.refl _)) hb8 (.inl rfl)
    have sb8 := same_new (o := .lst [.int num]) hb8
    generalize upd K7 b8 (.lst [.int num]) = K8 at *
    refine ⟨(by show 2 ≤ sizeLine; decide), fun b9 hb9 => ?_⟩
    have tb9 : Th 3 K5 (upd K8 b9 (.tup [.ref b7, .ref b8])) (.ref b9) _ := th_two tb7 tb8.up (Grow.of (sb6.trans sb7)) sb8 hb9 (.inr rfl)
    have sb9 := same_new (o := .tup [.ref b7, .ref b8]) hb9
    generalize upd K8 b9 (.tup [.ref b7, .ref b8]) = K9 at *
    refine ⟨(by show 2 ≤ sizeLine; decide), fun b10 hb10 => ?_⟩
    have tb10 : Th 4 K1 (upd K9 b10 (.lst [.ref b5, .ref b9])) (.ref b10) _ := th_two tb5 tb9 (Grow.of (((sb2.trans sb3).trans sb4).trans sb5)) (((sb6.trans sb7).trans sb8).trans sb9) hb10 (.inl rfl)
    have sb10 := same_new (o := .lst [.ref b5, .ref b9]) hb10
    generalize upd K9 b10 (.lst [.ref b5, .ref b9]) = K10 at *
    refine ⟨(by show 2 ≤ sizeLine; decide), fun b11 hb11 => ?_⟩
    have tb11 : Th 5 K0 (upd K10 b11 (.tup [.ref b1, .ref b10])) (.ref b11) _ := th_two tb1.up.up.up tb10 (Grow.of sb1) ((((((((sb2.trans sb3).trans sb4).trans sb5).trans sb6).trans sb7).trans sb8).trans sb9).trans sb10) hb11 (.inr rfl)
    have sb11 := same_new (o := .tup [.ref b1, .ref b10]) hb11
    generalize upd K10 b11 (.tup [.ref b1, .ref b10]) = K11 at *
    have sK : Same K0 K11 := ((((((((((sb1.trans sb2).trans sb3).trans sb4).trans sb5).trans sb6).trans sb7).trans sb8).trans sb9).trans sb10).trans sb11)
    have atl2 := sK _ _ atl
    have n11 : l ∉ _ := fun e => nomatch (tb11.fresh l e).symm.trans atl
    refine ⟨l, _, _, rfl, rfl, atl2, (by show 8 < sizeLine; decide), ?_⟩
    have atL : upd K11 l (.lst ([.int num, .ref a1, .ref a3, .str txt, .non, .bl true, .ref a5, .ref a6] ++ [.ref b11])) l = some (.lst ([.int num, .ref a1, .ref a3, .str txt, .non, .bl true, .ref a5, .ref a6] ++ [.ref b11])) := upd_same
    have qL : ∀ b, b ≠ l → upd K11 l (.lst ([.int num, .ref a1, .ref a3, .str txt, .non, .bl true, .ref a5, .ref a6] ++ [.ref b11])) b = K11 b := fun b hb => upd_ne hb
    have hL1 : H1 l = none := g14 _ (((s4.trans s5).trans s6).free hl)
    have nsl : l ≠ sk := fun e => by
      rw [e, esk] at hL1
      cases hL1
    have hsM : SackAt (upd K11 l (.lst ([.int num, .ref a1, .ref a3, .str txt, .non, .bl true, .ref a5, .ref a6] ++ [.ref b11]))) sk 2 := by
      obtain ⟨x, y, z, e, r⟩ := (hs4.same s47).same sK
      exact ⟨x, y, z, (qL sk (Ne.symm nsl)).trans e, r⟩
    have frM : ∀ b, b ≠ sk → ∀ o, H1 b = some o → upd K11 l (.lst ([.int num, .ref a1, .ref a3, .str txt, .non, .bl true, .ref a5, .ref a6] ++ [.ref b11])) b = some o := fun b hb o e => by
      have z : b ≠ l := fun z => by
        rw [z, hL1] at e
        cases e
      exact (qL b z).trans (sK _ _ (s47 _ _ ((q4 b hb).trans (s03 _ _ e))))
    have things : ∀ i : Nat, i < 9 → ∃ v as, ([V.int num, .ref a1, .ref a3, .str txt, .non, .bl true, .ref a5, .ref a6] ++ [.ref b11])[i]? = some v ∧ Th 5 H1 (upd K11 l (.lst ([.int num, .ref a1, .ref a3, .str txt, .non, .bl true, .ref a5, .ref a6] ++ [.ref b11]))) v as ∧ as.length ≤ 100 := fun i hi =>
      match i, hi with
      | 0, _ => ⟨_, [], rfl, Th.flat fnum, by decide⟩
      | 1, _ => ⟨_, _, rfl, (((l1.same s7).same sK).set n1 qL).up.up.up.up, by show 1 ≤ 100; decide⟩
      | 2, _ => ⟨_, _, rfl, (((l3.same s7).same sK).set n3 qL).up.up.up, by show 2 ≤ 100; decide⟩
      | 3, _ => ⟨_, [], rfl, Th.flat (.inr (.inr (.inr ⟨txt, rfl, c4⟩))), by decide⟩
      | 4, _ => ⟨_, [], rfl, Th.flat (.inl rfl), by decide⟩
      | 5, _ => ⟨_, [], rfl, Th.flat (.inr (.inl rfl)), by decide⟩
      | 6, _ => ⟨_, _, rfl, (((l5.same s7).same sK).set n5 qL).up.up.up, by show 2 ≤ 100; decide⟩
      | 7, _ => ⟨_, _, rfl, (((l6.same s7).same sK).set n6 qL).up.up.up.up, by show 1 ≤ 100; decide⟩
      | 8, _ => ⟨_, _, rfl, ((tb11.old g1K).set n11 qL), by show 11 ≤ 100; decide⟩
      | i + 9, hi => absurd hi (by omega)
    clear l1 l3 l5 l6 tb1 tb2 tb3 tb4 tb5 tb6 tb7 tb8 tb9 tb10 tb11 t1 t2 t3 t1' t3' t4 t5 t6 n1 n3 n5 n6 n11 sb1 sb2 sb3 sb4 sb5 sb6 sb7 sb8 sb9 sb10 sb11 ha1 ha2 ha3 ha4 ha5 ha6 hb1 hb2 hb3 hb4 hb5 hb6 hb7 hb8 hb9 hb10 hb11
    generalize upd K11 l (.lst ([.int num, .ref a1, .ref a3, .str txt, .non, .bl true, .ref a5, .ref a6] ++ [.ref b11])) = M0 at *
    -- thing, second = (things[..], [number, 3])
    refine ⟨_, rfl, _, rfl, sk, 2, _, rfl, hsM, by decide, by decide, by decide, fun M1 i hi0 hi1 qi hs3 => ?_⟩
    have hs3 : SackAt M1 sk 3 := hs3
    obtain ⟨i', rfl⟩ : ∃ i' : Nat, i = (i' : Int) := ⟨i.toNat, (Int.toNat_of_nonneg hi0).symm⟩
    have hi9 : i' < 9 := by omega
    obtain ⟨v, as, hv, tv, las⟩ := things i' hi9
    have atl1 := (qi l nsl).trans atL
    refine ⟨l, _, _, v, rfl, rfl, SqL.of atl1, atI_nat hv, ?_⟩
    refine ⟨_, rfl, (by show 2 ≤ sizeLine; decide), fun sc hsc => ⟨v, .ref sc, rfl, ?_⟩⟩
    have tv1 := tv.pick esk qi
    have nsc := tv1.not hsc
    have hs4 := hs3.same (same_new (o := .lst [.int num, .int 3]) hsc)
    have tv2 := tv1.same (same_new (o := .lst [.int num, .int 3]) hsc)
    have atSc : upd M1 sc (.lst [.int num, .int 3]) sc = some (.lst [.int num, .int 3]) := upd_same
    have fr2 : ∀ b, b ≠ sk → ∀ o, H1 b = some o → upd M1 sc (.lst [.int num, .int 3]) b = some o := fun b hb o e => same_new hsc _ _ ((qi b hb).trans (frM b hb o e))
    have scN : H1 sc = none := by
      cases e : H1 sc with
      | none => rfl
      | some o =>
        by_cases z : sc = sk
        · rw [z] at hsc
          obtain ⟨o', e'⟩ := hs3.has
          rw [e'] at hsc
          cases hsc
        · have z2 := (qi sc z).trans (frM sc z o e)
          rw [hsc] at z2
          cases z2
    clear tv tv1 atl1 atL things frM hsM qL qi hsc hs3
    generalize upd M1 sc (.lst [.int num, .int 3]) = M2 at *
    -- rank, other_rank
    refine ⟨_, rfl, sk, 3, _, rfl, hs4, by decide, by decide, by decide, fun M3 r hr0 hr1 q3 hs5 => ?_⟩
    have hs5 : SackAt M3 sk 4 := hs5
    refine ⟨_, rfl, sk, 4, _, rfl, hs5, by decide, by decide, by decide, fun M4 ro ho0 ho1 q4' hs6 => ⟨.int r, .int ro, rfl, ?_⟩⟩
    have hs6 : SackAt M4 sk 5 := hs6
    obtain ⟨rn, rfl⟩ : ∃ rn : Nat, r = (rn : Int) := ⟨r.toNat, (Int.toNat_of_nonneg hr0).symm⟩
    obtain ⟨rm, rfl⟩ : ∃ rm : Nat, ro = (rm : Int) := ⟨ro.toNat, (Int.toNat_of_nonneg ho0).symm⟩
    have hrn : rn < 19 := by omega
    have hrm : rm < 19 := by omega
    -- elder
    refine ⟨_, rfl, _, rfl, _, rfl, sk, 5, _, rfl, hs6, by decide, by decide, by decide, fun M5 x5 hx0 hx1 q5 hs7 => ⟨rfl, rn, v, _, rfl, hrn, fun e1 d1 he1 hd1 ne1 => ?_⟩⟩
    have hs7 : SackAt M5 sk 6 := hs7
    have nss : sc ≠ sk := fun e => by
      rw [e, esk] at scN
      cases scN
    have tv5 := ((tv2.pick esk q3).pick esk q4').pick esk q5
    have q25 : ∀ b, b ≠ sk → M5 b = M2 b := fun b hb => (q5 b hb).trans ((q4' b hb).trans (q3 b hb))
    have atSc5 := (q25 sc nss).trans atSc
    have fr5 : ∀ b, b ≠ sk → ∀ o, H1 b = some o → M5 b = some o := fun b hb o e => (q25 b hb).trans (fr2 b hb o e)
    have s6a := new_err (x := .xd [(("value" : Str), v)]) (y := ErrO (cl rn) d1 e1) hd1 he1 ne1
    have err1 : ErrAt cl (upd (upd M5 d1 (.xd [(("value" : Str), v)])) e1 (ErrO (cl rn) d1 e1)) e1 d1 rn v := ⟨upd_same, (upd_ne (Ne.symm ne1)).trans upd_same⟩
    have en1 := tv5.not he1
    have dn1 := tv5.not hd1
    have esc1 : e1 ≠ sc := fun e => by
      rw [e, atSc5] at he1
      cases he1
    have dsc1 : d1 ≠ sc := fun e => by
      rw [e, atSc5] at hd1
      cases hd1
    have esk1 : e1 ≠ sk := fun e => by
      obtain ⟨o, z⟩ := hs7.has
      rw [e, z] at he1
      cases he1
    have dsk1 : d1 ≠ sk := fun e => by
      obtain ⟨o, z⟩ := hs7.has
      rw [e, z] at hd1
      cases hd1
    have hs7' := hs7.same s6a
    have tv6 := tv5.same s6a
    have atSc6 := s6a _ _ atSc5
    have fr6 : ∀ b, b ≠ sk → ∀ o, H1 b = some o → upd (upd M5 d1 (.xd [(("value" : Str), v)])) e1 (ErrO (cl rn) d1 e1) b = some o := fun b hb o e => s6a _ _ (fr5 b hb o e)
    clear s6a tv5 atSc5 fr5 tv2 fr2 atSc q3 q4' q5 q25 he1 hd1 hs4 hs5 hs6 hs7
    generalize upd (upd M5 d1 (.xd [(("value" : Str), v)])) e1 (ErrO (cl rn) d1 e1) = M6 at *
    -- caught
    refine ⟨_, rfl, _, rfl, _, rfl, sk, 6, _, rfl, hs7', by decide, by decide, by decide, fun M7 x7 hy0 hy1 q7 hs8 => ⟨rfl, rm, .ref sc, _, rfl, hrm, fun e2 d2 he2 hd2 ne2 => ?_⟩⟩
    have hs8 : SackAt M7 sk 7 := hs8
    have tv7 := tv6.pick esk q7
    have atSc7 := (q7 sc nss).trans atSc6
    have fr7 : ∀ b, b ≠ sk → ∀ o, H1 b = some o → M7 b = some o := fun b hb o e => (q7 b hb).trans (fr6 b hb o e)
    have err17 : ErrAt cl M7 e1 d1 rn v := ⟨(q7 e1 esk1).trans err1.1, (q7 d1 dsk1).trans err1.2⟩
    have s8a := new_err (x := .xd [(("value" : Str), V.ref sc)]) (y := ErrO (cl rm) d2 e2) hd2 he2 ne2
    have err2 : ErrAt cl (upd (upd M7 d2 (.xd [(("value" : Str), .ref sc)])) e2 (ErrO (cl rm) d2 e2)) e2 d2 rm (.ref sc) := ⟨upd_same, (upd_ne (Ne.symm ne2)).trans upd_same⟩
    have en2 := tv7.not he2
    have dn2 := tv7.not hd2
    have esc2 : e2 ≠ sc := fun e => by
      rw [e, atSc7] at he2
      cases he2
    have dsc2 : d2 ≠ sc := fun e => by
      rw [e, atSc7] at hd2
      cases hd2
    have err18 : ErrAt cl (upd (upd M7 d2 (.xd [(("value" : Str), .ref sc)])) e2 (ErrO (cl rm) d2 e2)) e1 d1 rn v := ⟨s8a _ _ err17.1, s8a _ _ err17.2⟩
    have tv8 := tv7.same s8a
    have atSc8 := s8a _ _ atSc7
    have fr8 : ∀ b, b ≠ sk → ∀ o, H1 b = some o → upd (upd M7 d2 (.xd [(("value" : Str), .ref sc)])) e2 (ErrO (cl rm) d2 e2) b = some o := fun b hb o e => s8a _ _ (fr7 b hb o e)
    clear s8a tv7 atSc7 fr7 tv6 fr6 atSc6 q7 he2 hd2 hs8 hs7' err17 err1
    generalize upd (upd M7 d2 (.xd [(("value" : Str), .ref sc)])) e2 (ErrO (cl rm) d2 e2) = M8 at *
    -- ranks(thing, [5])
    refine ⟨_, rfl, (by show 1 ≤ sizeLine; decide), fun rk hrk => ?_⟩
    have rkN : ∀ {b : Addr} {o : HO}, M8 b = some o → b ≠ rk := fun {b o} e => ne_of_none e hrk
    refine ⟨v, as, rk, 5, rfl, (tv8.same (same_new hrk)).dat, List.nodup_cons.mpr ⟨tv8.not hrk, tv8.nd⟩, upd_same, by decide, by omega, fun M9 k9 hk1 hk2 atr tv9 q9 => ?_⟩
    have q89 : ∀ b, b ∉ as → ∀ o, M8 b = some o → M9 b = some o := fun b hb o e => q9 b (rkN e) hb o (same_new hrk _ _ e)
    have err19 : ErrAt cl M9 e1 d1 rn v := ⟨q89 _ en1 _ err18.1, q89 _ dn1 _ err18.2⟩
    have err29 : ErrAt cl M9 e2 d2 rm (.ref sc) := ⟨q89 _ en2 _ err2.1, q89 _ dn2 _ err2.2⟩
    have atSc9 := q89 _ nsc _ atSc8
    have fr9 : ∀ b, b ≠ sk → ∀ o, H1 b = some o → M9 b = some o := fun b hb o e => q89 b (fun z => by
      have z2 := tv8.fresh b z
      rw [e] at z2
      cases z2) o (fr8 b hb o e)
    -- second.append(4)
    refine ⟨_, rfl, .inl ⟨rfl, _, SqL.of atSc9⟩, sc, _, _, rfl, rfl, atSc9, (by show 2 < sizeLine; decide), ?_⟩
    have tv10 : Dat 6 5 (upd M9 sc (.lst ([.int num, .int 3] ++ [.int 4]))) v as := tv9.frame fun b hb o e => (upd_ne (fun z => nsc (by rw [← z]; exact hb))).trans e
    have ts10 : Dat 6 1 (upd M9 sc (.lst ([.int num, .int 3] ++ [.int 4]))) (.ref sc) [sc] := .inr ⟨sc, [.int num, .int 3, .int 4], [[], [], []], rfl, .inl upd_same, (by show 3 ≤ 6; decide), rfl, fun j hj =>
      match j, hj with
      | 0, _ => ⟨rfl, fnum⟩
      | 1, _ => ⟨rfl, f0 3 (by decide)⟩
      | 2, _ => ⟨rfl, f0 4 (by decide)⟩
      | j + 3, hj => absurd hj (by show ¬ j + 3 < 3; omega), rfl⟩
    have erA : ErrAt cl (upd M9 sc (.lst ([.int num, .int 3] ++ [.int 4]))) e1 d1 rn v := ⟨(upd_ne esc1).trans err19.1, (upd_ne dsc1).trans err19.2⟩
    have erB : ErrAt cl (upd M9 sc (.lst ([.int num, .int 3] ++ [.int 4]))) e2 d2 rm (.ref sc) := ⟨(upd_ne esc2).trans err29.1, (upd_ne dsc2).trans err29.2⟩
    have frA : ∀ b, b ≠ sk → ∀ o, H1 b = some o → upd M9 sc (.lst ([.int num, .int 3] ++ [.int 4])) b = some o := fun b hb o e => (upd_ne (fun z => by
      rw [z, scN] at e
      cases e)).trans (fr9 b hb o e)
    clear tv9 err19 err29 fr9 q9 q89 tv8 fr8 err18 err2 atSc8 atSc9 atr
    generalize upd M9 sc (.lst ([.int num, .int 3] ++ [.int 4])) = MA at *
    obtain ⟨dv, shv⟩ := tv10.shows (K := K) (by decide)
    obtain ⟨dw, shw⟩ := ts10.shows (K := K) (by decide)
    have fitV : dv.shown.length ≤ sizeLine := Nat.le_trans shv.len (by decide)
    have fitW : dw.shown.length ≤ sizeLine := Nat.le_trans shw.len (by decide)
    have depV : dv.depth ≤ 60 := Nat.le_trans shv.dep (by decide)
    have depW : dw.depth ≤ 60 := Nat.le_trans shw.dep (by decide)
    refine ⟨_, rfl, e1, cl rn, d1, fI, _, v, rfl, T.err rn hrn, erA.1, erA.2, v, dv, rfl, shv.dp, shv.sh, shv.nd, depV, fitV, ?_⟩
    refine ⟨_, rfl, v, dv, rfl, shv.dp, shv.sh, shv.nd, depV, fitV, rfl, _, rfl, ?_⟩
    have same : ∀ x : V, (!decide (x = x)) = false := fun x => by simp
    rw [same]
    refine iteF ?_
    refine ⟨_, rfl, e2, cl rm, d2, fI, _, .ref sc, rfl, T.err rm hrm, erB.1, erB.2, .ref sc, dw, rfl, shw.dp, shw.sh, shw.nd, depW, fitW, ?_⟩
    refine ⟨_, rfl, .ref sc, dw, rfl, shw.dp, shw.sh, shw.nd, depW, fitW, rfl, _, rfl, ?_⟩
    rw [same]
    refine iteF ?_
    -- for error, number in ((elder, rank), (caught, other_rank))
    refine ⟨_, rfl, _, rfl, (by show 2 ≤ sizeLine; decide), fun ta hta => ?_⟩
    refine ⟨_, rfl, _, rfl, (by show 2 ≤ sizeLine; decide), fun tb htb => ?_⟩
    refine ⟨(by show 2 ≤ sizeLine; decide), fun tc htc => ?_⟩
    have sAll := ((same_new (o := .tup [.ref e1, .int rn]) hta).trans (same_new (o := .tup [.ref e2, .int rm]) htb)).trans (same_new (o := .tup [.ref ta, .ref tb]) htc)
    have atC : upd (upd (upd MA ta (.tup [.ref e1, .int rn])) tb (.tup [.ref e2, .int rm])) tc (.tup [.ref ta, .ref tb]) tc = some (.tup [.ref ta, .ref tb]) := upd_same
    have atB : upd (upd (upd MA ta (.tup [.ref e1, .int rn])) tb (.tup [.ref e2, .int rm])) tc (.tup [.ref ta, .ref tb]) tb = some (.tup [.ref e2, .int rm]) := same_new (o := .tup [.ref ta, .ref tb]) htc _ _ upd_same
    have atA : upd (upd (upd MA ta (.tup [.ref e1, .int rn])) tb (.tup [.ref e2, .int rm])) tc (.tup [.ref ta, .ref tb]) ta = some (.tup [.ref e1, .int rn]) := same_new (o := .tup [.ref ta, .ref tb]) htc _ _ (same_new (o := .tup [.ref e2, .int rm]) htb _ _ upd_same)
    have erA2 : ErrAt cl _ e1 d1 rn v := ⟨sAll _ _ erA.1, sAll _ _ erA.2⟩
    have erB2 : ErrAt cl _ e2 d2 rm (.ref sc) := ⟨sAll _ _ erB.1, sAll _ _ erB.2⟩
    have frB : ∀ b, b ≠ sk → ∀ o, H1 b = some o → upd (upd (upd MA ta (.tup [.ref e1, .int rn])) tb (.tup [.ref e2, .int rm])) tc (.tup [.ref ta, .ref tb]) b = some o := fun b hb o e => sAll _ _ (frA b hb o e)
    clear shv shw erA erB frA sAll hta htb htc tv10 ts10 fitV fitW depV depW
    generalize upd (upd (upd MA ta (.tup [.ref e1, .int rn])) tb (.tup [.ref e2, .int rm])) tc (.tup [.ref ta, .ref tb]) = MB at *
    refine ⟨tc, rfl, ⟨_, SqT.of atC⟩, ?_⟩
    refine for_tup (K := K) (a := tc) (xs := [.ref ta, .ref tb]) (fun i σ H' => (∃ x1 x9 : Option V, σ = [some (.ref sk), x1, some (.ref l), some v, some (.ref sc), some (.int rn), some (.int rm), some (.ref e1), some (.ref e2), x9]) ∧ Same MB H')
      ⟨⟨some (.int num), none, rfl⟩, Same.refl _⟩ (fun i σ H' _ ⟨_, sm⟩ => SqT.of (sm _ _ atC)) ?_ ?_
    · rintro i x σ H' hi ⟨⟨x1, x9, rfl⟩, sm⟩
      obtain ⟨t, e, d, n, u, rfl, hn, att, erT⟩ : ∃ (t e d : Addr) (n : Nat) (u : V), x = .ref t ∧ n < 19 ∧ MB t = some (.tup [.ref e, .int n]) ∧ ErrAt cl MB e d n u := by
        match i, hi with
        | 0, hi => exact ⟨ta, e1, d1, rn, v, (Option.some.inj hi).symm, hrn, atA, erA2⟩
        | 1, hi => exact ⟨tb, e2, d2, rm, .ref sc, (Option.some.inj hi).symm, hrm, atB, erB2⟩
        | i + 2, hi => exact absurd hi (by simp)
      have erT2 : ErrAt cl H' e d n u := ⟨sm _ _ erT.1, sm _ _ erT.2⟩
      refine ⟨t, _, rfl, SqT.of (sm _ _ att), rfl, _, _, rfl, _, _, rfl, rfl, ?_⟩
      refine ⟨_, rfl, e, d, n, u, rfl, erT2, hn, fun H5 p5 hp5 sm5 at5 => ?_⟩
      refine ⟨_, rfl, (by show 2 ≤ sizeLine; decide), fun l6 hl6 => ?_⟩
      refine ⟨l6, [0, (n : Int)], rfl, SqL.of upd_same, (by show 2 ≤ 50; decide), fun p7 c7 hp7 hc7 => ?_⟩
      refine ⟨p7, _, c7, rfl, upd_same, Nat.lt_of_le_of_lt hc7 (by show 2 < 64; decide), fun ns p8 so mem lens hp8 => ?_⟩
      have same8 : ns = kindsUpTo n 19 := sorted_ext so (kinds_sorted n 19) fun k => by
        rw [mem k, decide_eq_true_eq, kinds_mem hn]
        simp
      have sm8 : Same H5 _ := ((same_new (o := .lst [.int 0, .int (n : Int)]) hl6).trans (same_new (o := SetO w p7 (fun j => decide (j ∈ [0, (n : Int)])) c7) hp7)).trans (same_new (o := .lst (ns.map V.int)) hp8)
      refine ⟨.list ((kindsUpTo n 19).map .int), .list ((kindsUpTo n 19).map .int), .lst (SqL.of (sm8 _ _ at5)) (dp_ints _ _), .lst (SqL.of (by rw [same8]; exact upd_same)) (dp_ints _ _), shaped_ints _, shaped_ints _, _, rfl, ?_⟩
      rw [SeqAt.eqv_refl _ (SeqAt.canLay_of_shaped (shaped_ints _))]
      refine iteF ?_
      have er9 : ErrAt cl _ e d n u := ⟨sm8 _ _ (sm5 _ _ erT2.1), sm8 _ _ (sm5 _ _ erT2.2)⟩
      have k0 : PySem.W.kitOne K (.ref (cl n)) (.ref (cl 0)) = some true := by
        rw [T.kit hn (by decide)]
        unfold kb
        simp
      refine ⟨_, rfl, e, cl n, d, fI, _, u, .ty "ValueError", .type "ValueError", true, rfl, T.err n hn, T.ask n hn, T.obj hn, er9.1, er9.2, .ty _, T.val hn, _, rfl, ?_⟩
      refine iteF ?_
      refine ⟨_, rfl, e, cl n, d, fI, _, u, .ref (cl 0), .ref (cl 0), true, rfl, T.err n hn, T.ask n hn, T.obj hn, er9.1, er9.2, .own _, k0, _, rfl, ?_⟩
      refine iteF ?_
      exact ⟨⟨_, _, rfl⟩, sm.trans (sm5.trans sm8)⟩
    · rintro σ H' ⟨⟨x1, x9, rfl⟩, sm⟩
      refine k H' fun b hb o e => sm _ _ (frB b hb o ?_)
      rw [q1 b hb]
      exact e
end
end K0

set_option Elab.async false
set_option linter.all false
set_option maxRecDepth 100000
set_option maxHeartbeats 8000000
namespace K0
open PySem L2 PySem.HouseX
def spLaw (K : PySem.W.Frag) : Sp := fun vs H Q _ => ∃ (a : Addr) (ns : List Int), vs = [.ref a] ∧ SqL K H a (ns.map V.int) ∧ ns.length ≤ 63 ∧ ∀ H', Q (.bl true) H'
section
variable {P : Program} {w : World} {K : PySem.W.Frag} {mg : Str → Option Value} {base : Heap} {fS fR : Addr} {fdS fdR : FuncData}
theorem scLaw : FnScope ["_law_script", "_law_rank"] ["_law_script"] (defScope sLaw) := ⟨rfl, rfl, rfl, by decide +kernel, rfl, by decide +kernel, by decide +kernel⟩
theorem ok_law {f : Addr} {fd : FuncData} (F : Fun K "law" "law" sLaw f fd) (T : TxtN K mg) (rng : mg "range" = none) (gS : mg "_law_hd_sack" = some (.ref fS)) (gR : mg "_law_right" = some (.ref fR))
    (GS : FnOk P w K mg base CX0 1 fS fdS ["_law_script", "_law_rank"] (spSack K)) (kS : PySem.W.keepIn K (.ref fS) = true) (bS : Binds K fdS ["_law_script", "_law_rank"] [])
    (GR : FnG P w K mg base 7 fR fdR ["_law_sack"] spRight) (kR : PySem.W.keepIn K (.ref fR) = true) (bR : Binds K fdR ["_law_sack"] []) : FnG P w K mg base 8 f fd ["_law_script"] (spLaw K) := by
  refine F.okG scLaw (fun vs H Q E h => ?_) (fun cdv A outer s H vs Q E hgd hr h => ?_)
  · obtain ⟨a, ns, rfl, _⟩ := h
    rfl
  · obtain ⟨a, ns, rfl, hS, hl, k⟩ := h
    have r1 : Room 1 _ := hr.mono (by decide)
    refine ⟨_, pss_cons (ps_for PassesOwn.never rfl (pi_range1 rfl rng (pa_cons (pe_callB (call_max2 rfl) (by rfl) T.max (by decide +kernel) (pa_cons pe_int (pa_cons (pe_callB (call_min2 rfl) (by rfl) T.min (by decide +kernel) (pa_cons pe_int
          (pa_cons (pe_callB call_len_seq (by rfl) T.len PySem.boot_len (pa_cons (pv 0) pa_nil)) pa_nil))) pa_nil))) pa_nil)) (pg_name (i := 1) scLaw.nd rfl (Or.inl rfl))
        (pss_one (ps_if (pt_not (pt_val (pe_callG GR hgd hr rfl gR kR bR (pa_cons (pe_call GS r1 rfl gS kS bS .nil pass0 (pa_cons (pv 0) (pa_cons (pv 1) pa_nil))) pa_nil)))) (pss_one (ps_ret pe_bl)) pss_nil)))
      (pss_one (ps_ret pe_bl)), ?_⟩
    refine ⟨_, rfl, a, _, rfl, .inl hS, _, _, rfl, _, _, rfl, ?_⟩
    have few : (ns.map V.int).length ≤ 63 := by
      rw [List.length_map]
      exact hl
    obtain ⟨N, hN⟩ : ∃ N : Int, (if (if (((ns.map V.int).length : Nat) : Int) < 30 then (((ns.map V.int).length : Nat) : Int) else 30) > 1 then (if (((ns.map V.int).length : Nat) : Int) < 30 then (((ns.map V.int).length : Nat) : Int) else 30) else 1) = N := ⟨_, rfl⟩
    have N0 : 1 ≤ N ∧ N ≤ 30 := by
      rw [← hN]
      split <;> split <;> omega
    rw [hN]
    refine ⟨N, rfl, by omega, by omega, ?_⟩
    refine for_range (lo := 0) (n := N.toNat) (fun i σ H' => (∃ x1 : Option V, σ = [some (.ref a), x1]) ∧ Same H H') ⟨⟨none, rfl⟩, Same.refl _⟩ ?_ ?_
    · rintro i σ H' hi ⟨⟨x1, rfl⟩, sm⟩
      refine ⟨_, rfl, _, rfl, a, ns, i, congrArg (fun z : Int => [V.ref a, V.int z]) (Int.zero_add _), sm.seq hS, by omega, by omega, fun H2 p hp sm2 _ hsk => ?_⟩
      refine ⟨p, rfl, hsk, fun H3 fr => ⟨_, rfl, iteF ?_⟩⟩
      refine ⟨⟨_, rfl⟩, sm.trans fun b o e => fr b (ne_of_none e hp) o (sm2 b o e)⟩
    · rintro σ H' ⟨⟨x1, rfl⟩, sm⟩
      exact k H'
end
/-! ### what the top has written -/
theorem mkErr {K : PySem.W.Frag} {C f1 : Addr} {bm : List Value} (cls : ∃ nm q N bs sn sub ab col dd k0 k1 k2 k3 k5, K.lookup C = some (excClassObj nm q C N bs bm true sn sub ab col dd k0 k1 k2 k3 k5 "ValueError.__new__")) (bases : PySem.HandSPX.refsVE bm = true)
    (hb : bm.contains (.type "BaseException") = true) (sa : PySem.W.findIn K (.ref C) "__setattr__" = some (some (.builtin "object.__setattr__"))) (ga : PySem.W.findIn K (.ref C) "__getattribute__" = some (some (.builtin "BaseException.__getattribute__")))
    (gg : PySem.W.findIn K (.ref C) "__getattr__" = some none) (nb : PySem.W.findIn K (.ref C) "value" = some none) (a1 : PySem.W.findIn K (.ref C) "__init__" = some (some (.ref f1))) (t1 : PySem.W.typeIn K (.ref f1) = some (.type "function"))
    (kC : PySem.W.keepIn K (.ref C) = true) (fn : InitTxt K f1) : ErrTxt K C f1 bm := by
  obtain ⟨nm, q, N, bs, sn, sub, ab, col, dd, k0, k1, k2, k3, k5, hC⟩ := cls
  have hcl : PySem.W.clsIn K C = some { name := nm, bases := bs, mro := .ref C :: bm, ns := N, qualname := q, hasDict := true, slotNames := sn, subclasses := sub, abstract := ab, collection := col, hasDel := false } := by
    unfold PySem.W.clsIn
    rw [hC] <;> rfl
  refine ⟨⟨nm, q, N, bs, sn, sub, ab, col, dd, k0, k1, k2, k3, k5, hC⟩, bases, sa, ga, gg, nb, a1, t1, kC, ?_, ?_, fn⟩
  · show PySem.W.mroIn K C _ = _
    unfold PySem.W.mroIn
    rw [hcl]
    show some ((Value.ref C :: bm).contains _) = _
    rw [List.contains_cons, hb, Bool.or_true]
  · unfold PySem.W.hasDictIn
    rw [hcl] <;> rfl
def objName (o : Obj) : Option Str := match o.data with
  | .cls cd => some cd.name
  | _ => none
theorem nm_inj : ∀ i < 19, ∀ j < 19, nm i = nm j → i = j := by decide +kernel
theorem all_mk {l : PySem.W.OpenLaw} {w : World} {K : PySem.W.Frag} {h : Heap} {mg : Str → Option Value} {fa : Addr} (X : K.In h) (G : h.Ns mainGlobals mg) (hfa : mg "law" = some (.ref fa))
    {C0 C1 C2 C3 C4 C5 C6 C7 C8 C9 C10 C11 C12 C13 C14 C15 C16 C17 C18 f1 g0 g1 g2 g3 g4 g5 g6 g7 : Addr}
    {q0 : Str} {N0 : Addr} {bs0 sub0 : List Value} {sn0 : List Str} {ab0 : Bool} {col0 : Option Bool} {dd0 : Option Addr} {mA0 mB0 mC0 mD0 mE0 : Option Value}
    {q1 : Str} {N1 : Addr} {bs1 sub1 : List Value} {sn1 : List Str} {ab1 : Bool} {col1 : Option Bool} {dd1 : Option Addr} {mA1 mB1 mC1 mD1 mE1 : Option Value}
    {q2 : Str} {N2 : Addr} {bs2 sub2 : List Value} {sn2 : List Str} {ab2 : Bool} {col2 : Option Bool} {dd2 : Option Addr} {mA2 mB2 mC2 mD2 mE2 : Option Value}
    {q3 : Str} {N3 : Addr} {bs3 sub3 : List Value} {sn3 : List Str} {ab3 : Bool} {col3 : Option Bool} {dd3 : Option Addr} {mA3 mB3 mC3 mD3 mE3 : Option Value}
    {q4 : Str} {N4 : Addr} {bs4 sub4 : List Value} {sn4 : List Str} {ab4 : Bool} {col4 : Option Bool} {dd4 : Option Addr} {mA4 mB4 mC4 mD4 mE4 : Option Value}
    {q5 : Str} {N5 : Addr} {bs5 sub5 : List Value} {sn5 : List Str} {ab5 : Bool} {col5 : Option Bool} {dd5 : Option Addr} {mA5 mB5 mC5 mD5 mE5 : Option Value}
    {q6 : Str} {N6 : Addr} {bs6 sub6 : List Value} {sn6 : List Str} {ab6 : Bool} {col6 : Option Bool} {dd6 : Option Addr} {mA6 mB6 mC6 mD6 mE6 : Option Value}
    {q7 : Str} {N7 : Addr} {bs7 sub7 : List Value} {sn7 : List Str} {ab7 : Bool} {col7 : Option Bool} {dd7 : Option Addr} {mA7 mB7 mC7 mD7 mE7 : Option Value}
    {q8 : Str} {N8 : Addr} {bs8 sub8 : List Value} {sn8 : List Str} {ab8 : Bool} {col8 : Option Bool} {dd8 : Option Addr} {mA8 mB8 mC8 mD8 mE8 : Option Value}
    {q9 : Str} {N9 : Addr} {bs9 sub9 : List Value} {sn9 : List Str} {ab9 : Bool} {col9 : Option Bool} {dd9 : Option Addr} {mA9 mB9 mC9 mD9 mE9 : Option Value}
    {q10 : Str} {N10 : Addr} {bs10 sub10 : List Value} {sn10 : List Str} {ab10 : Bool} {col10 : Option Bool} {dd10 : Option Addr} {mA10 mB10 mC10 mD10 mE10 : Option Value}
    {q11 : Str} {N11 : Addr} {bs11 sub11 : List Value} {sn11 : List Str} {ab11 : Bool} {col11 : Option Bool} {dd11 : Option Addr} {mA11 mB11 mC11 mD11 mE11 : Option Value}
    {q12 : Str} {N12 : Addr} {bs12 sub12 : List Value} {sn12 : List Str} {ab12 : Bool} {col12 : Option Bool} {dd12 : Option Addr} {mA12 mB12 mC12 mD12 mE12 : Option Value}
    {q13 : Str} {N13 : Addr} {bs13 sub13 : List Value} {sn13 : List Str} {ab13 : Bool} {col13 : Option Bool} {dd13 : Option Addr} {mA13 mB13 mC13 mD13 mE13 : Option Value}
    {q14 : Str} {N14 : Addr} {bs14 sub14 : List Value} {sn14 : List Str} {ab14 : Bool} {col14 : Option Bool} {dd14 : Option Addr} {mA14 mB14 mC14 mD14 mE14 : Option Value}
    {q15 : Str} {N15 : Addr} {bs15 sub15 : List Value} {sn15 : List Str} {ab15 : Bool} {col15 : Option Bool} {dd15 : Option Addr} {mA15 mB15 mC15 mD15 mE15 : Option Value}
    {q16 : Str} {N16 : Addr} {bs16 sub16 : List Value} {sn16 : List Str} {ab16 : Bool} {col16 : Option Bool} {dd16 : Option Addr} {mA16 mB16 mC16 mD16 mE16 : Option Value}
    {q17 : Str} {N17 : Addr} {bs17 sub17 : List Value} {sn17 : List Str} {ab17 : Bool} {col17 : Option Bool} {dd17 : Option Addr} {mA17 mB17 mC17 mD17 mE17 : Option Value}
    {q18 : Str} {N18 : Addr} {bs18 sub18 : List Value} {sn18 : List Str} {ab18 : Bool} {col18 : Option Bool} {dd18 : Option Addr} {mA18 mB18 mC18 mD18 mE18 : Option Value}
    {oc_i dc_i pm_i cd_i ct_i : Value} {od_i an_i : Option Addr} {sl_i : Array (Option Value)}
    {oc_0 dc_0 pm_0 cd_0 ct_0 kV_0 : Value} {od_0 an_0 : Option Addr} {sl_0 : Array (Option Value)}
    {oc_1 dc_1 pm_1 cd_1 ct_1 kV_1 : Value} {od_1 an_1 : Option Addr} {sl_1 : Array (Option Value)}
    {oc_2 dc_2 pm_2 cd_2 ct_2 kV_2 : Value} {od_2 an_2 : Option Addr} {sl_2 : Array (Option Value)}
    {oc_3 dc_3 pm_3 cd_3 ct_3 kV_3 : Value} {od_3 an_3 : Option Addr} {sl_3 : Array (Option Value)}
    {oc_4 dc_4 pm_4 cd_4 ct_4 kV_4 : Value} {od_4 an_4 : Option Addr} {sl_4 : Array (Option Value)}
    {oc_5 dc_5 pm_5 cd_5 ct_5 kV_5 : Value} {od_5 an_5 : Option Addr} {sl_5 : Array (Option Value)}
    {oc_6 dc_6 pm_6 cd_6 ct_6 kV_6 : Value} {od_6 an_6 : Option Addr} {sl_6 : Array (Option Value)}
    {oc_7 dc_7 pm_7 cd_7 ct_7 kV_7 : Value} {od_7 an_7 : Option Addr} {sl_7 : Array (Option Value)}
    (a0 : PySem.W.nsIn K mainGlobals "HouseError" = some (some (.ref C0)))
    (x0 : K.lookup C0 = some (excClassObj "HouseError" q0 C0 N0 bs0 [.type "ValueError", .type "Exception", .type "BaseException", .type "object"] true sn0 sub0 ab0 col0 dd0 mA0 mB0 mC0 mD0 mE0 "ValueError.__new__"))
    (sa0 : PySem.W.findIn K (.ref C0) "__setattr__" = some (some (.builtin "object.__setattr__")))
    (ga0 : PySem.W.findIn K (.ref C0) "__getattribute__" = some (some (.builtin "BaseException.__getattribute__")))
    (gg0 : PySem.W.findIn K (.ref C0) "__getattr__" = some none)
    (nb0 : PySem.W.findIn K (.ref C0) "value" = some none)
    (in0 : PySem.W.findIn K (.ref C0) "__init__" = some (some (.ref f1)))
    (kc0 : PySem.W.keepIn K (.ref C0) = true)
    (ha0 : PySem.W.findIn K (.ref C0) "__class__" = some (some (.builtin "object.__class__")))
    (a1 : PySem.W.nsIn K mainGlobals "InvalidName" = some (some (.ref C1)))
    (x1 : K.lookup C1 = some (excClassObj "InvalidName" q1 C1 N1 bs1 [.ref C0, .type "ValueError", .type "Exception", .type "BaseException", .type "object"] true sn1 sub1 ab1 col1 dd1 mA1 mB1 mC1 mD1 mE1 "ValueError.__new__"))
    (sa1 : PySem.W.findIn K (.ref C1) "__setattr__" = some (some (.builtin "object.__setattr__")))
    (ga1 : PySem.W.findIn K (.ref C1) "__getattribute__" = some (some (.builtin "BaseException.__getattribute__")))
    (gg1 : PySem.W.findIn K (.ref C1) "__getattr__" = some none)
    (nb1 : PySem.W.findIn K (.ref C1) "value" = some none)
    (in1 : PySem.W.findIn K (.ref C1) "__init__" = some (some (.ref f1)))
    (kc1 : PySem.W.keepIn K (.ref C1) = true)
    (ha1 : PySem.W.findIn K (.ref C1) "__class__" = some (some (.builtin "object.__class__")))
    (a2 : PySem.W.nsIn K mainGlobals "DoubleName" = some (some (.ref C2)))
    (x2 : K.lookup C2 = some (excClassObj "DoubleName" q2 C2 N2 bs2 [.ref C0, .type "ValueError", .type "Exception", .type "BaseException", .type "object"] true sn2 sub2 ab2 col2 dd2 mA2 mB2 mC2 mD2 mE2 "ValueError.__new__"))
    (sa2 : PySem.W.findIn K (.ref C2) "__setattr__" = some (some (.builtin "object.__setattr__")))
    (ga2 : PySem.W.findIn K (.ref C2) "__getattribute__" = some (some (.builtin "BaseException.__getattribute__")))
    (gg2 : PySem.W.findIn K (.ref C2) "__getattr__" = some none)
    (nb2 : PySem.W.findIn K (.ref C2) "value" = some none)
    (in2 : PySem.W.findIn K (.ref C2) "__init__" = some (some (.ref f1)))
    (kc2 : PySem.W.keepIn K (.ref C2) = true)
    (ha2 : PySem.W.findIn K (.ref C2) "__class__" = some (some (.builtin "object.__class__")))
    (a3 : PySem.W.nsIn K mainGlobals "UnknownName" = some (some (.ref C3)))
    (x3 : K.lookup C3 = some (excClassObj "UnknownName" q3 C3 N3 bs3 [.ref C0, .type "ValueError", .type "Exception", .type "BaseException", .type "object"] true sn3 sub3 ab3 col3 dd3 mA3 mB3 mC3 mD3 mE3 "ValueError.__new__"))
    (sa3 : PySem.W.findIn K (.ref C3) "__setattr__" = some (some (.builtin "object.__setattr__")))
    (ga3 : PySem.W.findIn K (.ref C3) "__getattribute__" = some (some (.builtin "BaseException.__getattribute__")))
    (gg3 : PySem.W.findIn K (.ref C3) "__getattr__" = some none)
    (nb3 : PySem.W.findIn K (.ref C3) "value" = some none)
    (in3 : PySem.W.findIn K (.ref C3) "__init__" = some (some (.ref f1)))
    (kc3 : PySem.W.keepIn K (.ref C3) = true)
    (ha3 : PySem.W.findIn K (.ref C3) "__class__" = some (some (.builtin "object.__class__")))
    (a4 : PySem.W.nsIn K mainGlobals "InvalidModulus" = some (some (.ref C4)))
    (x4 : K.lookup C4 = some (excClassObj "InvalidModulus" q4 C4 N4 bs4 [.ref C0, .type "ValueError", .type "Exception", .type "BaseException", .type "object"] true sn4 sub4 ab4 col4 dd4 mA4 mB4 mC4 mD4 mE4 "ValueError.__new__"))
    (sa4 : PySem.W.findIn K (.ref C4) "__setattr__" = some (some (.builtin "object.__setattr__")))
    (ga4 : PySem.W.findIn K (.ref C4) "__getattribute__" = some (some (.builtin "BaseException.__getattribute__")))
    (gg4 : PySem.W.findIn K (.ref C4) "__getattr__" = some none)
    (nb4 : PySem.W.findIn K (.ref C4) "value" = some none)
    (in4 : PySem.W.findIn K (.ref C4) "__init__" = some (some (.ref f1)))
    (kc4 : PySem.W.keepIn K (.ref C4) = true)
    (ha4 : PySem.W.findIn K (.ref C4) "__class__" = some (some (.builtin "object.__class__")))
    (a5 : PySem.W.nsIn K mainGlobals "InvalidNumber" = some (some (.ref C5)))
    (x5 : K.lookup C5 = some (excClassObj "InvalidNumber" q5 C5 N5 bs5 [.ref C0, .type "ValueError", .type "Exception", .type "BaseException", .type "object"] true sn5 sub5 ab5 col5 dd5 mA5 mB5 mC5 mD5 mE5 "ValueError.__new__"))
    (sa5 : PySem.W.findIn K (.ref C5) "__setattr__" = some (some (.builtin "object.__setattr__")))
    (ga5 : PySem.W.findIn K (.ref C5) "__getattribute__" = some (some (.builtin "BaseException.__getattribute__")))
    (gg5 : PySem.W.findIn K (.ref C5) "__getattr__" = some none)
    (nb5 : PySem.W.findIn K (.ref C5) "value" = some none)
    (in5 : PySem.W.findIn K (.ref C5) "__init__" = some (some (.ref f1)))
    (kc5 : PySem.W.keepIn K (.ref C5) = true)
    (ha5 : PySem.W.findIn K (.ref C5) "__class__" = some (some (.builtin "object.__class__")))
    (a6 : PySem.W.nsIn K mainGlobals "InvalidPair" = some (some (.ref C6)))
    (x6 : K.lookup C6 = some (excClassObj "InvalidPair" q6 C6 N6 bs6 [.ref C0, .type "ValueError", .type "Exception", .type "BaseException", .type "object"] true sn6 sub6 ab6 col6 dd6 mA6 mB6 mC6 mD6 mE6 "ValueError.__new__"))
    (sa6 : PySem.W.findIn K (.ref C6) "__setattr__" = some (some (.builtin "object.__setattr__")))
    (ga6 : PySem.W.findIn K (.ref C6) "__getattribute__" = some (some (.builtin "BaseException.__getattribute__")))
    (gg6 : PySem.W.findIn K (.ref C6) "__getattr__" = some none)
    (nb6 : PySem.W.findIn K (.ref C6) "value" = some none)
    (in6 : PySem.W.findIn K (.ref C6) "__init__" = some (some (.ref f1)))
    (kc6 : PySem.W.keepIn K (.ref C6) = true)
    (ha6 : PySem.W.findIn K (.ref C6) "__class__" = some (some (.builtin "object.__class__")))
    (a7 : PySem.W.nsIn K mainGlobals "InvalidState" = some (some (.ref C7)))
    (x7 : K.lookup C7 = some (excClassObj "InvalidState" q7 C7 N7 bs7 [.ref C0, .type "ValueError", .type "Exception", .type "BaseException", .type "object"] true sn7 sub7 ab7 col7 dd7 mA7 mB7 mC7 mD7 mE7 "ValueError.__new__"))
    (sa7 : PySem.W.findIn K (.ref C7) "__setattr__" = some (some (.builtin "object.__setattr__")))
    (ga7 : PySem.W.findIn K (.ref C7) "__getattribute__" = some (some (.builtin "BaseException.__getattribute__")))
    (gg7 : PySem.W.findIn K (.ref C7) "__getattr__" = some none)
    (nb7 : PySem.W.findIn K (.ref C7) "value" = some none)
    (in7 : PySem.W.findIn K (.ref C7) "__init__" = some (some (.ref f1)))
    (kc7 : PySem.W.keepIn K (.ref C7) = true)
    (ha7 : PySem.W.findIn K (.ref C7) "__class__" = some (some (.builtin "object.__class__")))
    (a8 : PySem.W.nsIn K mainGlobals "InvalidForm" = some (some (.ref C8)))
    (x8 : K.lookup C8 = some (excClassObj "InvalidForm" q8 C8 N8 bs8 [.ref C0, .type "ValueError", .type "Exception", .type "BaseException", .type "object"] true sn8 sub8 ab8 col8 dd8 mA8 mB8 mC8 mD8 mE8 "ValueError.__new__"))
    (sa8 : PySem.W.findIn K (.ref C8) "__setattr__" = some (some (.builtin "object.__setattr__")))
    (ga8 : PySem.W.findIn K (.ref C8) "__getattribute__" = some (some (.builtin "BaseException.__getattribute__")))
    (gg8 : PySem.W.findIn K (.ref C8) "__getattr__" = some none)
    (nb8 : PySem.W.findIn K (.ref C8) "value" = some none)
    (in8 : PySem.W.findIn K (.ref C8) "__init__" = some (some (.ref f1)))
    (kc8 : PySem.W.keepIn K (.ref C8) = true)
    (ha8 : PySem.W.findIn K (.ref C8) "__class__" = some (some (.builtin "object.__class__")))
    (a9 : PySem.W.nsIn K mainGlobals "InvalidBox" = some (some (.ref C9)))
    (x9 : K.lookup C9 = some (excClassObj "InvalidBox" q9 C9 N9 bs9 [.ref C0, .type "ValueError", .type "Exception", .type "BaseException", .type "object"] true sn9 sub9 ab9 col9 dd9 mA9 mB9 mC9 mD9 mE9 "ValueError.__new__"))
    (sa9 : PySem.W.findIn K (.ref C9) "__setattr__" = some (some (.builtin "object.__setattr__")))
    (ga9 : PySem.W.findIn K (.ref C9) "__getattribute__" = some (some (.builtin "BaseException.__getattribute__")))
    (gg9 : PySem.W.findIn K (.ref C9) "__getattr__" = some none)
    (nb9 : PySem.W.findIn K (.ref C9) "value" = some none)
    (in9 : PySem.W.findIn K (.ref C9) "__init__" = some (some (.ref f1)))
    (kc9 : PySem.W.keepIn K (.ref C9) = true)
    (ha9 : PySem.W.findIn K (.ref C9) "__class__" = some (some (.builtin "object.__class__")))
    (a10 : PySem.W.nsIn K mainGlobals "InvalidCell" = some (some (.ref C10)))
    (x10 : K.lookup C10 = some (excClassObj "InvalidCell" q10 C10 N10 bs10 [.ref C0, .type "ValueError", .type "Exception", .type "BaseException", .type "object"] true sn10 sub10 ab10 col10 dd10 mA10 mB10 mC10 mD10 mE10 "ValueError.__new__"))
    (sa10 : PySem.W.findIn K (.ref C10) "__setattr__" = some (some (.builtin "object.__setattr__")))
    (ga10 : PySem.W.findIn K (.ref C10) "__getattribute__" = some (some (.builtin "BaseException.__getattribute__")))
    (gg10 : PySem.W.findIn K (.ref C10) "__getattr__" = some none)
    (nb10 : PySem.W.findIn K (.ref C10) "value" = some none)
    (in10 : PySem.W.findIn K (.ref C10) "__init__" = some (some (.ref f1)))
    (kc10 : PySem.W.keepIn K (.ref C10) = true)
    (ha10 : PySem.W.findIn K (.ref C10) "__class__" = some (some (.builtin "object.__class__")))
    (a11 : PySem.W.nsIn K mainGlobals "InvalidWord" = some (some (.ref C11)))
    (x11 : K.lookup C11 = some (excClassObj "InvalidWord" q11 C11 N11 bs11 [.ref C0, .type "ValueError", .type "Exception", .type "BaseException", .type "object"] true sn11 sub11 ab11 col11 dd11 mA11 mB11 mC11 mD11 mE11 "ValueError.__new__"))
    (sa11 : PySem.W.findIn K (.ref C11) "__setattr__" = some (some (.builtin "object.__setattr__")))
    (ga11 : PySem.W.findIn K (.ref C11) "__getattribute__" = some (some (.builtin "BaseException.__getattribute__")))
    (gg11 : PySem.W.findIn K (.ref C11) "__getattr__" = some none)
    (nb11 : PySem.W.findIn K (.ref C11) "value" = some none)
    (in11 : PySem.W.findIn K (.ref C11) "__init__" = some (some (.ref f1)))
    (kc11 : PySem.W.keepIn K (.ref C11) = true)
    (ha11 : PySem.W.findIn K (.ref C11) "__class__" = some (some (.builtin "object.__class__")))
    (a12 : PySem.W.nsIn K mainGlobals "TooShort" = some (some (.ref C12)))
    (x12 : K.lookup C12 = some (excClassObj "TooShort" q12 C12 N12 bs12 [.ref C0, .type "ValueError", .type "Exception", .type "BaseException", .type "object"] true sn12 sub12 ab12 col12 dd12 mA12 mB12 mC12 mD12 mE12 "ValueError.__new__"))
    (sa12 : PySem.W.findIn K (.ref C12) "__setattr__" = some (some (.builtin "object.__setattr__")))
    (ga12 : PySem.W.findIn K (.ref C12) "__getattribute__" = some (some (.builtin "BaseException.__getattribute__")))
    (gg12 : PySem.W.findIn K (.ref C12) "__getattr__" = some none)
    (nb12 : PySem.W.findIn K (.ref C12) "value" = some none)
    (in12 : PySem.W.findIn K (.ref C12) "__init__" = some (some (.ref f1)))
    (kc12 : PySem.W.keepIn K (.ref C12) = true)
    (ha12 : PySem.W.findIn K (.ref C12) "__class__" = some (some (.builtin "object.__class__")))
    (a13 : PySem.W.nsIn K mainGlobals "InvalidRests" = some (some (.ref C13)))
    (x13 : K.lookup C13 = some (excClassObj "InvalidRests" q13 C13 N13 bs13 [.ref C0, .type "ValueError", .type "Exception", .type "BaseException", .type "object"] true sn13 sub13 ab13 col13 dd13 mA13 mB13 mC13 mD13 mE13 "ValueError.__new__"))
    (sa13 : PySem.W.findIn K (.ref C13) "__setattr__" = some (some (.builtin "object.__setattr__")))
    (ga13 : PySem.W.findIn K (.ref C13) "__getattribute__" = some (some (.builtin "BaseException.__getattribute__")))
    (gg13 : PySem.W.findIn K (.ref C13) "__getattr__" = some none)
    (nb13 : PySem.W.findIn K (.ref C13) "value" = some none)
    (in13 : PySem.W.findIn K (.ref C13) "__init__" = some (some (.ref f1)))
    (kc13 : PySem.W.keepIn K (.ref C13) = true)
    (ha13 : PySem.W.findIn K (.ref C13) "__class__" = some (some (.builtin "object.__class__")))
    (a14 : PySem.W.nsIn K mainGlobals "StillUsed" = some (some (.ref C14)))
    (x14 : K.lookup C14 = some (excClassObj "StillUsed" q14 C14 N14 bs14 [.ref C0, .type "ValueError", .type "Exception", .type "BaseException", .type "object"] true sn14 sub14 ab14 col14 dd14 mA14 mB14 mC14 mD14 mE14 "ValueError.__new__"))
    (sa14 : PySem.W.findIn K (.ref C14) "__setattr__" = some (some (.builtin "object.__setattr__")))
    (ga14 : PySem.W.findIn K (.ref C14) "__getattribute__" = some (some (.builtin "BaseException.__getattribute__")))
    (gg14 : PySem.W.findIn K (.ref C14) "__getattr__" = some none)
    (nb14 : PySem.W.findIn K (.ref C14) "value" = some none)
    (in14 : PySem.W.findIn K (.ref C14) "__init__" = some (some (.ref f1)))
    (kc14 : PySem.W.keepIn K (.ref C14) = true)
    (ha14 : PySem.W.findIn K (.ref C14) "__class__" = some (some (.builtin "object.__class__")))
    (a15 : PySem.W.nsIn K mainGlobals "Locked" = some (some (.ref C15)))
    (x15 : K.lookup C15 = some (excClassObj "Locked" q15 C15 N15 bs15 [.ref C0, .type "ValueError", .type "Exception", .type "BaseException", .type "object"] true sn15 sub15 ab15 col15 dd15 mA15 mB15 mC15 mD15 mE15 "ValueError.__new__"))
    (sa15 : PySem.W.findIn K (.ref C15) "__setattr__" = some (some (.builtin "object.__setattr__")))
    (ga15 : PySem.W.findIn K (.ref C15) "__getattribute__" = some (some (.builtin "BaseException.__getattribute__")))
    (gg15 : PySem.W.findIn K (.ref C15) "__getattr__" = some none)
    (nb15 : PySem.W.findIn K (.ref C15) "value" = some none)
    (in15 : PySem.W.findIn K (.ref C15) "__init__" = some (some (.ref f1)))
    (kc15 : PySem.W.keepIn K (.ref C15) = true)
    (ha15 : PySem.W.findIn K (.ref C15) "__class__" = some (some (.builtin "object.__class__")))
    (a16 : PySem.W.nsIn K mainGlobals "Clash" = some (some (.ref C16)))
    (x16 : K.lookup C16 = some (excClassObj "Clash" q16 C16 N16 bs16 [.ref C0, .type "ValueError", .type "Exception", .type "BaseException", .type "object"] true sn16 sub16 ab16 col16 dd16 mA16 mB16 mC16 mD16 mE16 "ValueError.__new__"))
    (sa16 : PySem.W.findIn K (.ref C16) "__setattr__" = some (some (.builtin "object.__setattr__")))
    (ga16 : PySem.W.findIn K (.ref C16) "__getattribute__" = some (some (.builtin "BaseException.__getattribute__")))
    (gg16 : PySem.W.findIn K (.ref C16) "__getattr__" = some none)
    (nb16 : PySem.W.findIn K (.ref C16) "value" = some none)
    (in16 : PySem.W.findIn K (.ref C16) "__init__" = some (some (.ref f1)))
    (kc16 : PySem.W.keepIn K (.ref C16) = true)
    (ha16 : PySem.W.findIn K (.ref C16) "__class__" = some (some (.builtin "object.__class__")))
    (a17 : PySem.W.nsIn K mainGlobals "NothingToUndo" = some (some (.ref C17)))
    (x17 : K.lookup C17 = some (excClassObj "NothingToUndo" q17 C17 N17 bs17 [.ref C0, .type "ValueError", .type "Exception", .type "BaseException", .type "object"] true sn17 sub17 ab17 col17 dd17 mA17 mB17 mC17 mD17 mE17 "ValueError.__new__"))
    (sa17 : PySem.W.findIn K (.ref C17) "__setattr__" = some (some (.builtin "object.__setattr__")))
    (ga17 : PySem.W.findIn K (.ref C17) "__getattribute__" = some (some (.builtin "BaseException.__getattribute__")))
    (gg17 : PySem.W.findIn K (.ref C17) "__getattr__" = some none)
    (nb17 : PySem.W.findIn K (.ref C17) "value" = some none)
    (in17 : PySem.W.findIn K (.ref C17) "__init__" = some (some (.ref f1)))
    (kc17 : PySem.W.keepIn K (.ref C17) = true)
    (ha17 : PySem.W.findIn K (.ref C17) "__class__" = some (some (.builtin "object.__class__")))
    (a18 : PySem.W.nsIn K mainGlobals "Unreadable" = some (some (.ref C18)))
    (x18 : K.lookup C18 = some (excClassObj "Unreadable" q18 C18 N18 bs18 [.ref C0, .type "ValueError", .type "Exception", .type "BaseException", .type "object"] true sn18 sub18 ab18 col18 dd18 mA18 mB18 mC18 mD18 mE18 "ValueError.__new__"))
    (sa18 : PySem.W.findIn K (.ref C18) "__setattr__" = some (some (.builtin "object.__setattr__")))
    (ga18 : PySem.W.findIn K (.ref C18) "__getattribute__" = some (some (.builtin "BaseException.__getattribute__")))
    (gg18 : PySem.W.findIn K (.ref C18) "__getattr__" = some none)
    (nb18 : PySem.W.findIn K (.ref C18) "value" = some none)
    (in18 : PySem.W.findIn K (.ref C18) "__init__" = some (some (.ref f1)))
    (kc18 : PySem.W.keepIn K (.ref C18) = true)
    (ha18 : PySem.W.findIn K (.ref C18) "__class__" = some (some (.builtin "object.__class__")))
    (t1 : PySem.W.typeIn K (.ref f1) = some (.type "function"))
    (l1 : K.lookup f1 = some ⟨oc_i, od_i, .func (PySem.W.fnOf "__init__" "HouseError.__init__" (iA ⟨4, 17, 4, 21⟩ ⟨4, 23, 4, 28⟩) (iB ⟨5, 8, 5, 12⟩ ⟨5, 8, 5, 18⟩ ⟨5, 21, 5, 26⟩ ⟨5, 8, 5, 26⟩) iS .none .none dc_i pm_i an_i cd_i ct_i), sl_i⟩)
    (c1 : PySem.W.codeIn K cd_i "HouseError.__init__" = true)
    (hn : PySem.W.specialIn K (.builtin "object.__class__") "__get__" = some (some (.builtin "getset_descriptor.__get__")))
    (ht : PySem.W.takesIn K (.builtin "object.__class__") = some true)
    (d0 : PySem.W.nsIn K mainGlobals "_law_hd_sack" = some (some (.ref g0)))
    (e0 : K.lookup g0 = some ⟨oc_0, od_0, .func (PySem.W.fnOf "_law_hd_sack" "_law_hd_sack" (defArgs sSack) (defBody sSack) (defScope sSack) .none kV_0 dc_0 pm_0 an_0 cd_0 ct_0), sl_0⟩)
    (c_0 : PySem.W.codeIn K cd_0 "_law_hd_sack" = true)
    (k_0 : PySem.W.keepIn K (.ref g0) = true)
    (d1 : PySem.W.nsIn K mainGlobals "_law_hd_pick" = some (some (.ref g1)))
    (e1 : K.lookup g1 = some ⟨oc_1, od_1, .func (PySem.W.fnOf "_law_hd_pick" "_law_hd_pick" (defArgs sPick) (defBody sPick) (defScope sPick) .none kV_1 dc_1 pm_1 an_1 cd_1 ct_1), sl_1⟩)
    (c_1 : PySem.W.codeIn K cd_1 "_law_hd_pick" = true)
    (k_1 : PySem.W.keepIn K (.ref g1) = true)
    (d2 : PySem.W.nsIn K mainGlobals "_law_hd_ranks" = some (some (.ref g2)))
    (e2 : K.lookup g2 = some ⟨oc_2, od_2, .func (PySem.W.fnOf "_law_hd_ranks" "_law_hd_ranks" (defArgs sRanks) (defBody sRanks) (defScope sRanks) .none kV_2 dc_2 pm_2 an_2 cd_2 ct_2), sl_2⟩)
    (c_2 : PySem.W.codeIn K cd_2 "_law_hd_ranks" = true)
    (k_2 : PySem.W.keepIn K (.ref g2) = true)
    (d3 : PySem.W.nsIn K mainGlobals "_law_hd_first_made" = some (some (.ref g3)))
    (e3 : K.lookup g3 = some ⟨oc_3, od_3, .func (PySem.W.fnOf "_law_hd_first_made" "_law_hd_first_made" (defArgs sFirst) (defBody sFirst) (defScope sFirst) .none kV_3 dc_3 pm_3 an_3 cd_3 ct_3), sl_3⟩)
    (c_3 : PySem.W.codeIn K cd_3 "_law_hd_first_made" = true)
    (k_3 : PySem.W.keepIn K (.ref g3) = true)
    (d4 : PySem.W.nsIn K mainGlobals "_law_hd_made_error" = some (some (.ref g4)))
    (e4 : K.lookup g4 = some ⟨oc_4, od_4, .func (PySem.W.fnOf "_law_hd_made_error" "_law_hd_made_error" (defArgs sMade) (defBody sMade) (defScope sMade) .none kV_4 dc_4 pm_4 an_4 cd_4 ct_4), sl_4⟩)
    (c_4 : PySem.W.codeIn K cd_4 "_law_hd_made_error" = true)
    (k_4 : PySem.W.keepIn K (.ref g4) = true)
    (d5 : PySem.W.nsIn K mainGlobals "_law_hd_of_kinds" = some (some (.ref g5)))
    (e5 : K.lookup g5 = some ⟨oc_5, od_5, .func (PySem.W.fnOf "_law_hd_of_kinds" "_law_hd_of_kinds" (defArgs sKinds) (defBody sKinds) (defScope sKinds) .none kV_5 dc_5 pm_5 an_5 cd_5 ct_5), sl_5⟩)
    (c_5 : PySem.W.codeIn K cd_5 "_law_hd_of_kinds" = true)
    (k_5 : PySem.W.keepIn K (.ref g5) = true)
    (d6 : PySem.W.nsIn K mainGlobals "_law_right" = some (some (.ref g6)))
    (e6 : K.lookup g6 = some ⟨oc_6, od_6, .func (PySem.W.fnOf "_law_right" "_law_right" (defArgs sRight) (defBody sRight) (defScope sRight) .none kV_6 dc_6 pm_6 an_6 cd_6 ct_6), sl_6⟩)
    (c_6 : PySem.W.codeIn K cd_6 "_law_right" = true)
    (k_6 : PySem.W.keepIn K (.ref g6) = true)
    (d7 : PySem.W.nsIn K mainGlobals "law" = some (some (.ref g7)))
    (e7 : K.lookup g7 = some ⟨oc_7, od_7, .func (PySem.W.fnOf "law" "law" (defArgs sLaw) (defBody sLaw) (defScope sLaw) .none kV_7 dc_7 pm_7 an_7 cd_7 ct_7), sl_7⟩)
    (c_7 : PySem.W.codeIn K cd_7 "law" = true)
    (k_7 : PySem.W.keepIn K (.ref g7) = true)
    (z_len : PySem.W.nsIn K mainGlobals "len" = some none)
    (z_max : PySem.W.nsIn K mainGlobals "max" = some none)
    (z_min : PySem.W.nsIn K mainGlobals "min" = some none)
    (z_abs : PySem.W.nsIn K mainGlobals "abs" = some none)
    (z_int : PySem.W.nsIn K mainGlobals "int" = some none)
    (z_isinstance : PySem.W.nsIn K mainGlobals "isinstance" = some none)
    (z_range : PySem.W.nsIn K mainGlobals "range" = some none)
    (z_list : PySem.W.nsIn K mainGlobals "list" = some none)
    (z_tuple : PySem.W.nsIn K mainGlobals "tuple" = some none)
    (z_repr : PySem.W.nsIn K mainGlobals "repr" = some none)
    (z_sorted : PySem.W.nsIn K mainGlobals "sorted" = some none)
    (z_set : PySem.W.nsIn K mainGlobals "set" = some none)
    (z_ValueError : PySem.W.nsIn K mainGlobals "ValueError" = some none) :
    ∃ fd : FuncData, (∀ (s : Shared) (v : Value), BindsTo s fd ⟨[v], []⟩ [("_law_script", v)]) ∧ ∀ base : Heap, K.In base → base.Ns mainGlobals mg → FnG l.prog w K mg base 8 fa fd ["_law_script"] (spLaw K) := by
  have e := hfa.symm.trans (PySem.W.mg_of X G d7)
  cases e
  let cl : Nat → Addr := fun i => ([C0, C1, C2, C3, C4, C5, C6, C7, C8, C9, C10, C11, C12, C13, C14, C15, C16, C17, C18] : List Addr).getD i 0
  have init : InitTxt K f1 := ⟨_, _, _, _, _, _, _, _, _, _, _, _, _, _, l1, c1⟩
  have E0 : ErrTxt K C0 f1 (PySem.HandSPX.veTail) := mkErr ⟨_, _, _, _, _, _, _, _, _, _, _, _, _, _, x0⟩ rfl rfl sa0 ga0 gg0 nb0 in0 t1 kc0 init
  have E1 : ErrTxt K C1 f1 (.ref C0 :: PySem.HandSPX.veTail) := mkErr ⟨_, _, _, _, _, _, _, _, _, _, _, _, _, _, x1⟩ rfl rfl sa1 ga1 gg1 nb1 in1 t1 kc1 init
  have E2 : ErrTxt K C2 f1 (.ref C0 :: PySem.HandSPX.veTail) := mkErr ⟨_, _, _, _, _, _, _, _, _, _, _, _, _, _, x2⟩ rfl rfl sa2 ga2 gg2 nb2 in2 t1 kc2 init
  have E3 : ErrTxt K C3 f1 (.ref C0 :: PySem.HandSPX.veTail) := mkErr ⟨_, _, _, _, _, _, _, _, _, _, _, _, _, _, x3⟩ rfl rfl sa3 ga3 gg3 nb3 in3 t1 kc3 init
  have E4 : ErrTxt K C4 f1 (.ref C0 :: PySem.HandSPX.veTail) := mkErr ⟨_, _, _, _, _, _, _, _, _, _, _, _, _, _, x4⟩ rfl rfl sa4 ga4 gg4 nb4 in4 t1 kc4 init
  have E5 : ErrTxt K C5 f1 (.ref C0 :: PySem.HandSPX.veTail) := mkErr ⟨_, _, _, _, _, _, _, _, _, _, _, _, _, _, x5⟩ rfl rfl sa5 ga5 gg5 nb5 in5 t1 kc5 init
  have E6 : ErrTxt K C6 f1 (.ref C0 :: PySem.HandSPX.veTail) := mkErr ⟨_, _, _, _, _, _, _, _, _, _, _, _, _, _, x6⟩ rfl rfl sa6 ga6 gg6 nb6 in6 t1 kc6 init
  have E7 : ErrTxt K C7 f1 (.ref C0 :: PySem.HandSPX.veTail) := mkErr ⟨_, _, _, _, _, _, _, _, _, _, _, _, _, _, x7⟩ rfl rfl sa7 ga7 gg7 nb7 in7 t1 kc7 init
  have E8 : ErrTxt K C8 f1 (.ref C0 :: PySem.HandSPX.veTail) := mkErr ⟨_, _, _, _, _, _, _, _, _, _, _, _, _, _, x8⟩ rfl rfl sa8 ga8 gg8 nb8 in8 t1 kc8 init
  have E9 : ErrTxt K C9 f1 (.ref C0 :: PySem.HandSPX.veTail) := mkErr ⟨_, _, _, _, _, _, _, _, _, _, _, _, _, _, x9⟩ rfl rfl sa9 ga9 gg9 nb9 in9 t1 kc9 init
  have E10 : ErrTxt K C10 f1 (.ref C0 :: PySem.HandSPX.veTail) := mkErr ⟨_, _, _, _, _, _, _, _, _, _, _, _, _, _, x10⟩ rfl rfl sa10 ga10 gg10 nb10 in10 t1 kc10 init
  have E11 : ErrTxt K C11 f1 (.ref C0 :: PySem.HandSPX.veTail) := mkErr ⟨_, _, _, _, _, _, _, _, _, _, _, _, _, _, x11⟩ rfl rfl sa11 ga11 gg11 nb11 in11 t1 kc11 init
  have E12 : ErrTxt K C12 f1 (.ref C0 :: PySem.HandSPX.veTail) := mkErr ⟨_, _, _, _, _, _, _, _, _, _, _, _, _, _, x12⟩ rfl rfl sa12 ga12 gg12 nb12 in12 t1 kc12 init
  have E13 : ErrTxt K C13 f1 (.ref C0 :: PySem.HandSPX.veTail) := mkErr ⟨_, _, _, _, _, _, _, _, _, _, _, _, _, _, x13⟩ rfl rfl sa13 ga13 gg13 nb13 in13 t1 kc13 init
  have E14 : ErrTxt K C14 f1 (.ref C0 :: PySem.HandSPX.veTail) := mkErr ⟨_, _, _, _, _, _, _, _, _, _, _, _, _, _, x14⟩ rfl rfl sa14 ga14 gg14 nb14 in14 t1 kc14 init
  have E15 : ErrTxt K C15 f1 (.ref C0 :: PySem.HandSPX.veTail) := mkErr ⟨_, _, _, _, _, _, _, _, _, _, _, _, _, _, x15⟩ rfl rfl sa15 ga15 gg15 nb15 in15 t1 kc15 init
  have E16 : ErrTxt K C16 f1 (.ref C0 :: PySem.HandSPX.veTail) := mkErr ⟨_, _, _, _, _, _, _, _, _, _, _, _, _, _, x16⟩ rfl rfl sa16 ga16 gg16 nb16 in16 t1 kc16 init
  have E17 : ErrTxt K C17 f1 (.ref C0 :: PySem.HandSPX.veTail) := mkErr ⟨_, _, _, _, _, _, _, _, _, _, _, _, _, _, x17⟩ rfl rfl sa17 ga17 gg17 nb17 in17 t1 kc17 init
  have E18 : ErrTxt K C18 f1 (.ref C0 :: PySem.HandSPX.veTail) := mkErr ⟨_, _, _, _, _, _, _, _, _, _, _, _, _, _, x18⟩ rfl rfl sa18 ga18 gg18 nb18 in18 t1 kc18 init
  have err : ∀ i < 19, ErrTxt K (cl i) f1 (if i = 0 then PySem.HandSPX.veTail else .ref (cl 0) :: PySem.HandSPX.veTail) := fun i hi =>
    match i, hi with
    | 0, _ => E0
    | 1, _ => E1
    | 2, _ => E2
    | 3, _ => E3
    | 4, _ => E4
    | 5, _ => E5
    | 6, _ => E6
    | 7, _ => E7
    | 8, _ => E8
    | 9, _ => E9
    | 10, _ => E10
    | 11, _ => E11
    | 12, _ => E12
    | 13, _ => E13
    | 14, _ => E14
    | 15, _ => E15
    | 16, _ => E16
    | 17, _ => E17
    | 18, _ => E18
    | i + 19, hi => absurd hi (by omega)
  have ask : ∀ i < 19, AskTxt K (cl i) := fun i hi =>
    match i, hi with
    | 0, _ => ⟨ha0, hn, ht⟩
    | 1, _ => ⟨ha1, hn, ht⟩
    | 2, _ => ⟨ha2, hn, ht⟩
    | 3, _ => ⟨ha3, hn, ht⟩
    | 4, _ => ⟨ha4, hn, ht⟩
    | 5, _ => ⟨ha5, hn, ht⟩
    | 6, _ => ⟨ha6, hn, ht⟩
    | 7, _ => ⟨ha7, hn, ht⟩
    | 8, _ => ⟨ha8, hn, ht⟩
    | 9, _ => ⟨ha9, hn, ht⟩
    | 10, _ => ⟨ha10, hn, ht⟩
    | 11, _ => ⟨ha11, hn, ht⟩
    | 12, _ => ⟨ha12, hn, ht⟩
    | 13, _ => ⟨ha13, hn, ht⟩
    | 14, _ => ⟨ha14, hn, ht⟩
    | 15, _ => ⟨ha15, hn, ht⟩
    | 16, _ => ⟨ha16, hn, ht⟩
    | 17, _ => ⟨ha17, hn, ht⟩
    | 18, _ => ⟨ha18, hn, ht⟩
    | i + 19, hi => absurd hi (by omega)
  have glob : ∀ i < 19, mg (nm i) = some (.ref (cl i)) := fun i hi =>
    match i, hi with
    | 0, _ => PySem.W.mg_of X G a0
    | 1, _ => PySem.W.mg_of X G a1
    | 2, _ => PySem.W.mg_of X G a2
    | 3, _ => PySem.W.mg_of X G a3
    | 4, _ => PySem.W.mg_of X G a4
    | 5, _ => PySem.W.mg_of X G a5
    | 6, _ => PySem.W.mg_of X G a6
    | 7, _ => PySem.W.mg_of X G a7
    | 8, _ => PySem.W.mg_of X G a8
    | 9, _ => PySem.W.mg_of X G a9
    | 10, _ => PySem.W.mg_of X G a10
    | 11, _ => PySem.W.mg_of X G a11
    | 12, _ => PySem.W.mg_of X G a12
    | 13, _ => PySem.W.mg_of X G a13
    | 14, _ => PySem.W.mg_of X G a14
    | 15, _ => PySem.W.mg_of X G a15
    | 16, _ => PySem.W.mg_of X G a16
    | 17, _ => PySem.W.mg_of X G a17
    | 18, _ => PySem.W.mg_of X G a18
    | i + 19, hi => absurd hi (by omega)
  have named : ∀ i < 19, (K.lookup (cl i)).bind objName = some (nm i) := fun i hi =>
    match i, hi with
    | 0, _ => (congrArg (fun o => Option.bind o objName) x0).trans rfl
    | 1, _ => (congrArg (fun o => Option.bind o objName) x1).trans rfl
    | 2, _ => (congrArg (fun o => Option.bind o objName) x2).trans rfl
    | 3, _ => (congrArg (fun o => Option.bind o objName) x3).trans rfl
    | 4, _ => (congrArg (fun o => Option.bind o objName) x4).trans rfl
    | 5, _ => (congrArg (fun o => Option.bind o objName) x5).trans rfl
    | 6, _ => (congrArg (fun o => Option.bind o objName) x6).trans rfl
    | 7, _ => (congrArg (fun o => Option.bind o objName) x7).trans rfl
    | 8, _ => (congrArg (fun o => Option.bind o objName) x8).trans rfl
    | 9, _ => (congrArg (fun o => Option.bind o objName) x9).trans rfl
    | 10, _ => (congrArg (fun o => Option.bind o objName) x10).trans rfl
    | 11, _ => (congrArg (fun o => Option.bind o objName) x11).trans rfl
    | 12, _ => (congrArg (fun o => Option.bind o objName) x12).trans rfl
    | 13, _ => (congrArg (fun o => Option.bind o objName) x13).trans rfl
    | 14, _ => (congrArg (fun o => Option.bind o objName) x14).trans rfl
    | 15, _ => (congrArg (fun o => Option.bind o objName) x15).trans rfl
    | 16, _ => (congrArg (fun o => Option.bind o objName) x16).trans rfl
    | 17, _ => (congrArg (fun o => Option.bind o objName) x17).trans rfl
    | 18, _ => (congrArg (fun o => Option.bind o objName) x18).trans rfl
    | i + 19, hi => absurd hi (by omega)
  have inj : ∀ i < 19, ∀ j < 19, cl i = cl j → i = j := fun i hi j hj q => nm_inj i hi j hj (by
    have z := named i hi
    rw [q, named j hj] at z
    exact (Option.some.inj z).symm)
  have T : Fam K mg cl f1 := ⟨err, ask, glob, inj⟩
  have n_len := PySem.W.mg_none_of X G z_len
  have n_max := PySem.W.mg_none_of X G z_max
  have n_min := PySem.W.mg_none_of X G z_min
  have n_abs := PySem.W.mg_none_of X G z_abs
  have n_int := PySem.W.mg_none_of X G z_int
  have n_isinstance := PySem.W.mg_none_of X G z_isinstance
  have n_range := PySem.W.mg_none_of X G z_range
  have n_list := PySem.W.mg_none_of X G z_list
  have n_tuple := PySem.W.mg_none_of X G z_tuple
  have n_repr := PySem.W.mg_none_of X G z_repr
  have n_sorted := PySem.W.mg_none_of X G z_sorted
  have n_set := PySem.W.mg_none_of X G z_set
  have n_ValueError := PySem.W.mg_none_of X G z_ValueError
  have TN : TxtN K mg := ⟨n_len, n_max, n_min, n_abs, n_int⟩
  have F0 := fun_mk (st := sSack) e0 c_0 k_0
  have F1 := fun_mk (st := sPick) e1 c_1 k_1
  have F2 := fun_mk (st := sRanks) e2 c_2 k_2
  have F3 := fun_mk (st := sFirst) e3 c_3 k_3
  have F4 := fun_mk (st := sMade) e4 c_4 k_4
  have F5 := fun_mk (st := sKinds) e5 c_5 k_5
  have F6 := fun_mk (st := sRight) e6 c_6 k_6
  have F7 := fun_mk (st := sLaw) e7 c_7 k_7
  have b0 := F0.binds (ps := ["_law_script", "_law_rank"]) fun _ _ _ _ _ _ us hl => match us, hl with | [_, _], _ => rfl
  have b1 := F1.binds (ps := ["_law_sack", "_law_many"]) fun _ _ _ _ _ _ us hl => match us, hl with | [_, _], _ => rfl
  have b2 := F2.binds (ps := ["_law_thing", "_law_ranks"]) fun _ _ _ _ _ _ us hl => match us, hl with | [_, _], _ => rfl
  have b3 := F3.binds (ps := ["_law_rank", "_law_thing", "_law_is_named"]) fun _ _ _ _ _ _ us hl => match us, hl with | [_, _, _], _ => rfl
  have b4 := F4.binds (ps := ["_law_rank", "_law_thing", "_law_is_named"]) fun _ _ _ _ _ _ us hl => match us, hl with | [_, _, _], _ => rfl
  have b5 := F5.binds (ps := ["_law_caught"]) fun _ _ _ _ _ _ us hl => match us, hl with | [_], _ => rfl
  have b6 := F6.binds (ps := ["_law_sack"]) fun _ _ _ _ _ _ us hl => match us, hl with | [_], _ => rfl
  have TL : TxtL K mg g1 g4 g2 g5 := ⟨n_repr, n_sorted, n_set, n_isinstance, n_ValueError, PySem.W.mg_of X G d1, PySem.W.mg_of X G d4, PySem.W.mg_of X G d2, PySem.W.mg_of X G d5⟩
  have TR : TxtR K mg g2 := ⟨n_isinstance, n_list, n_tuple, PySem.W.mg_of X G d2⟩
  exact ⟨PySem.W.fnOf "law" "law" (defArgs sLaw) (defBody sLaw) (defScope sLaw) .none kV_7 dc_7 pm_7 an_7 cd_7 ct_7, fun s v => .of_eq rfl, fun base _ _ =>
    ok_law F7 TN n_range (PySem.W.mg_of X G d0) (PySem.W.mg_of X G d6) (ok_sack F0 TN) k_0 b0
      (ok_right F6 T TL (ok_pick F1 TN) k_1 b1 (ok_made F4 T F3 b3 (PySem.W.mg_of X G d3)) k_4 b4 (ok_ranks F2 TR b2 5) k_2 b2 (ok_kinds F5 T n_isinstance n_range) k_5 b5) k_6 b6⟩
theorem walk {l : PySem.W.OpenLaw} {q : Program} {loose : List Str} {XP : (Str → Option Value) → Heap → Prop} {YP : World → Heap → Prop} {d : DefRec} {K : Params → PySem.W.Frag} (hn : l.most = some 63) (hdf : d.params.defaults = [])
    (hY : ∀ (w : World) (h : Heap), YP w h → (K w.params).In h)
    (F : ∀ (w : World) (mg : Str → Option Value) (fa : Addr) (h : Heap), (K w.params).In h → h.Ns mainGlobals mg → mg d.name = some (.ref fa) →
      ∃ fd : FuncData, (∀ (s : Shared) (u : Value), BindsTo s fd ⟨[u], []⟩ [("_law_script", u)]) ∧ ∀ base : Heap, (K w.params).In base → base.Ns mainGlobals mg → FnG l.prog w (K w.params) mg base 8 fa fd ["_law_script"] (spLaw (K w.params))) :
    PySem.W.WalkO q loose XP YP l.row.toRowW d [] (fun f vs => PySem.call f vs) :=
  walk_ofG (n := 63) (k := 8) (x := "_law_script") (sp := fun w => spLaw (K w.params)) hn (by decide) hdf ⟨rfl, by decide, by decide⟩ hY F fun _ _ a ns hl _ _ hS => ⟨a, ns, rfl, hS, hl, fun _ => rfl⟩
end K0

set_option Elab.async false

open PySem PySem.W PyProof.Rows in
set_option maxRecDepth 100000 in
set_option maxHeartbeats 0 in
theorem PySem.Challenge.cw_accountmaps_k00_errors_hold_values_holds : PySem.Challenge.rw_accountmaps_k00_errors_hold_values.Holds := by
  w_on; o_law; k_head; (case hw => w_witness2)
  k_fill
  refine K0.walk (l := PySem.Challenge.rw_accountmaps_k00_errors_hold_values) rfl rfl (fun w h Y => PySem.W.kIn_of Y) ?F
  case F =>
    intro w mg fa h KX G hmg
    refine' K0.all_mk KX G hmg ?a0 ?x0 ?sa0 ?ga0 ?gg0 ?nb0 ?in0 ?kc0 ?ha0 ?a1 ?x1 ?sa1 ?ga1 ?gg1 ?nb1 ?in1 ?kc1 ?ha1 ?a2 ?x2 ?sa2 ?ga2 ?gg2 ?nb2 ?in2 ?kc2 ?ha2 ?a3 ?x3 ?sa3 ?ga3 ?gg3 ?nb3 ?in3 ?kc3 ?ha3 ?a4 ?x4 ?sa4 ?ga4 ?gg4 ?nb4 ?in4 ?kc4 ?ha4 ?a5 ?x5 ?sa5 ?ga5 ?gg5 ?nb5 ?in5 ?kc5 ?ha5 ?a6 ?x6 ?sa6 ?ga6 ?gg6 ?nb6 ?in6 ?kc6 ?ha6 ?a7 ?x7 ?sa7 ?ga7 ?gg7 ?nb7 ?in7 ?kc7 ?ha7 ?a8 ?x8 ?sa8 ?ga8 ?gg8 ?nb8 ?in8 ?kc8 ?ha8 ?a9 ?x9 ?sa9 ?ga9 ?gg9 ?nb9 ?in9 ?kc9 ?ha9 ?a10 ?x10 ?sa10 ?ga10 ?gg10 ?nb10 ?in10 ?kc10 ?ha10 ?a11 ?x11 ?sa11 ?ga11 ?gg11 ?nb11 ?in11 ?kc11 ?ha11 ?a12 ?x12 ?sa12 ?ga12 ?gg12 ?nb12 ?in12 ?kc12 ?ha12 ?a13 ?x13 ?sa13 ?ga13 ?gg13 ?nb13 ?in13 ?kc13 ?ha13 ?a14 ?x14 ?sa14 ?ga14 ?gg14 ?nb14 ?in14 ?kc14 ?ha14 ?a15 ?x15 ?sa15 ?ga15 ?gg15 ?nb15 ?in15 ?kc15 ?ha15 ?a16 ?x16 ?sa16 ?ga16 ?gg16 ?nb16 ?in16 ?kc16 ?ha16 ?a17 ?x17 ?sa17 ?ga17 ?gg17 ?nb17 ?in17 ?kc17 ?ha17 ?a18 ?x18 ?sa18 ?ga18 ?gg18 ?nb18 ?in18 ?kc18 ?ha18 ?t1 ?l1 ?c1 ?hn ?ht ?d0 ?e0 ?c_0 ?k_0 ?d1 ?e1 ?c_1 ?k_1 ?d2 ?e2 ?c_2 ?k_2 ?d3 ?e3 ?c_3 ?k_3 ?d4 ?e4 ?c_4 ?k_4 ?d5 ?e5 ?c_5 ?k_5 ?d6 ?e6 ?c_6 ?k_6 ?d7 ?e7 ?c_7 ?k_7 ?z_len ?z_max ?z_min ?z_abs ?z_int ?z_isinstance ?z_range ?z_list ?z_tuple ?z_repr ?z_sorted ?z_set ?z_ValueError
    (case a0 => k_is)
    (case x0 => k_is)
    (case sa0 => k_is)
    (case ga0 => k_is)
    (case gg0 => k_is)
    (case nb0 => k_is)
    (case in0 => k_is)
    (case kc0 => k_is)
    (case ha0 => k_is)
    (case a1 => k_is)
    (case x1 => k_is)
    (case sa1 => k_is)
    (case ga1 => k_is)
    (case gg1 => k_is)
    (case nb1 => k_is)
    (case in1 => k_is)
    (case kc1 => k_is)
    (case ha1 => k_is)
    (case a2 => k_is)
    (case x2 => k_is)
    (case sa2 => k_is)
    (case ga2 => k_is)
    (case gg2 => k_is)
    (case nb2 => k_is)
    (case in2 => k_is)
    (case kc2 => k_is)
    (case ha2 => k_is)
    (case a3 => k_is)
    (case x3 => k_is)
    (case sa3 => k_is)
    (case ga3 => k_is)
    (case gg3 => k_is)
    (case nb3 => k_is)
    (case in3 => k_is)
    (case kc3 => k_is)
    (case ha3 => k_is)
    (case a4 => k_is)
    (case x4 => k_is)
    (case sa4 => k_is)
    (case ga4 => k_is)
    (case gg4 => k_is)
    (case nb4 => k_is)
    (case in4 => k_is)
    (case kc4 => k_is)
    (case ha4 => k_is)
    (case a5 => k_is)
    (case x5 => k_is)
    (case sa5 => k_is)
    (case ga5 => k_is)
    (case gg5 => k_is)
    (case nb5 => k_is)
    (case in5 => k_is)
    (case kc5 => k_is)
    (case ha5 => k_is)
    (case a6 => k_is)
    (case x6 => k_is)
    (case sa6 => k_is)
    (case ga6 => k_is)
    (case gg6 => k_is)
    (case nb6 => k_is)
    (case in6 => k_is)
    (case kc6 => k_is)
    (case ha6 => k_is)
    (case a7 => k_is)
    (case x7 => k_is)
    (case sa7 => k_is)
    (case ga7 => k_is)
    (case gg7 => k_is)
    (case nb7 => k_is)
    (case in7 => k_is)
    (case kc7 => k_is)
    (case ha7 => k_is)
    (case a8 => k_is)
    (case x8 => k_is)
    (case sa8 => k_is)
    (case ga8 => k_is)
    (case gg8 => k_is)
    (case nb8 => k_is)
    (case in8 => k_is)
    (case kc8 => k_is)
    (case ha8 => k_is)
    (case a9 => k_is)
    (case x9 => k_is)
    (case sa9 => k_is)
    (case ga9 => k_is)
    (case gg9 => k_is)
    (case nb9 => k_is)
    (case in9 => k_is)
    (case kc9 => k_is)
    (case ha9 => k_is)
    (case a10 => k_is)
    (case x10 => k_is)
    (case sa10 => k_is)
    (case ga10 => k_is)
    (case gg10 => k_is)
    (case nb10 => k_is)
    (case in10 => k_is)
    (case kc10 => k_is)
    (case ha10 => k_is)
    (case a11 => k_is)
    (case x11 => k_is)
    (case sa11 => k_is)
    (case ga11 => k_is)
    (case gg11 => k_is)
    (case nb11 => k_is)
    (case in11 => k_is)
    (case kc11 => k_is)
    (case ha11 => k_is)
    (case a12 => k_is)
    (case x12 => k_is)
    (case sa12 => k_is)
    (case ga12 => k_is)
    (case gg12 => k_is)
    (case nb12 => k_is)
    (case in12 => k_is)
    (case kc12 => k_is)
    (case ha12 => k_is)
    (case a13 => k_is)
    (case x13 => k_is)
    (case sa13 => k_is)
    (case ga13 => k_is)
    (case gg13 => k_is)
    (case nb13 => k_is)
    (case in13 => k_is)
    (case kc13 => k_is)
    (case ha13 => k_is)
    (case a14 => k_is)
    (case x14 => k_is)
    (case sa14 => k_is)
    (case ga14 => k_is)
    (case gg14 => k_is)
    (case nb14 => k_is)
    (case in14 => k_is)
    (case kc14 => k_is)
    (case ha14 => k_is)
    (case a15 => k_is)
    (case x15 => k_is)
    (case sa15 => k_is)
    (case ga15 => k_is)
    (case gg15 => k_is)
    (case nb15 => k_is)
    (case in15 => k_is)
    (case kc15 => k_is)
    (case ha15 => k_is)
    (case a16 => k_is)
    (case x16 => k_is)
    (case sa16 => k_is)
    (case ga16 => k_is)
    (case gg16 => k_is)
    (case nb16 => k_is)
    (case in16 => k_is)
    (case kc16 => k_is)
    (case ha16 => k_is)
    (case a17 => k_is)
    (case x17 => k_is)
    (case sa17 => k_is)
    (case ga17 => k_is)
    (case gg17 => k_is)
    (case nb17 => k_is)
    (case in17 => k_is)
    (case kc17 => k_is)
    (case ha17 => k_is)
    (case a18 => k_is)
    (case x18 => k_is)
    (case sa18 => k_is)
    (case ga18 => k_is)
    (case gg18 => k_is)
    (case nb18 => k_is)
    (case in18 => k_is)
    (case kc18 => k_is)
    (case ha18 => k_is)
    (case t1 => k_is)
    (case l1 => k_is)
    (case c1 => k_is)
    (case hn => k_is)
    (case ht => k_is)
    (case d0 => k_is)
    (case e0 => k_is)
    (case c_0 => k_is)
    (case k_0 => k_is)
    (case d1 => k_is)
    (case e1 => k_is)
    (case c_1 => k_is)
    (case k_1 => k_is)
    (case d2 => k_is)
    (case e2 => k_is)
    (case c_2 => k_is)
    (case k_2 => k_is)
    (case d3 => k_is)
    (case e3 => k_is)
    (case c_3 => k_is)
    (case k_3 => k_is)
    (case d4 => k_is)
    (case e4 => k_is)
    (case c_4 => k_is)
    (case k_4 => k_is)
    (case d5 => k_is)
    (case e5 => k_is)
    (case c_5 => k_is)
    (case k_5 => k_is)
    (case d6 => k_is)
    (case e6 => k_is)
    (case c_6 => k_is)
    (case k_6 => k_is)
    (case d7 => k_is)
    (case e7 => k_is)
    (case c_7 => k_is)
    (case k_7 => k_is)
    (case z_len => k_is)
    (case z_max => k_is)
    (case z_min => k_is)
    (case z_abs => k_is)
    (case z_int => k_is)
    (case z_isinstance => k_is)
    (case z_range => k_is)
    (case z_list => k_is)
    (case z_tuple => k_is)
    (case z_repr => k_is)
    (case z_sorted => k_is)
    (case z_set => k_is)
    (case z_ValueError => k_is)

