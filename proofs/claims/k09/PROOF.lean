import PyProof.Rows.All
import Wide.All
import OpenK.AllK
import Wide.FinOn
import HandS.ForMost
import HandS.ForExc
import HandS.Wide
import HandS.MakeKwOnly
import HandS.ExcValue
import HandS.ForSpec
import HandS.IsInst
import HandS.ExcIs
import HandS.EndBits
import PyProof.ReprLen
import PyProof.Rows.RegStrFacts
import HandS.SetFor
import HandS.Strs
import HandS.TupSets
import HandS.Gcd
import HandS.ExcCtx
import HandS.SortInts
import HandS.Zip
import HandS.Walk
import KE.GoesMore
import HandS.Comp
import HandS.More
import HandS.RevRange
import KE.DatumOrd
import HandS.SortKw
import HandS.Conv
import KE.DataEq
import HandS.Style
import PySem.Challenge.RW_accountmaps_k09_forms_in_their_least_way
set_option Elab.async false
set_option linter.all false
set_option maxRecDepth 100000
set_option maxHeartbeats 4000000
namespace PySem
namespace HouseX
open PySem.HandSPX
section
variable {M : Model} {A : Around} {E : Value → Shared → Prop} {h : Heap} {g : Array GenState} {d : Drawn} {t : Nat} {os : OsState}
variable {nm q : Str} {C N : Addr} {bs bm bmB : List Value} {hdct : Bool} {sn : List Str} {sub : List Value} {ab : Bool} {col : Option Bool} {dd : Option Addr} {k0 k1 k2 k3 k5 : Option Value} {B newId initId : String}
/-- the look ahead of __new__, keywords too -/
theorem look_new (F : ExcBaseFacts B newId initId bmB) (hT : ∀ X : String, bm.contains (.type X) = bmB.contains (.type X)) {rest : List Value} {kw : List (Str × Value)} {Q : Unit → Shared → Prop}
    (hC : h.get? C = some (excClassObj nm q C N bs bm hdct sn sub ab col dd k0 k1 k2 k3 k5 newId)) (hq : Q () ⟨h, g, d, t, os⟩) : wpAny M A (checkBuiltinCall newId ⟨.ref C :: rest, kw⟩) Q E ⟨h, g, d, t, os⟩ := by
  have has : (Value.ref C :: bm).contains (.type B) = true := by
    rw [List.contains_cons, hT, F.hasB, Bool.or_true]
  have nostar := F.noStar
  simp only [checkBuiltinCall, F.newKind, F.newSplit, F.newRow]
  repeat (first
    | refine wpAny_loadPart_at hC ?_
    | (refine wpAny_isSubtype_exc hC ?_; rw [has])
    | refine wpAny_staticBase_exc hC ?_
    | refine wpAny_madeBy_exc hC ?_
    | simp only [bne_self_eq_false, Bool.false_eq_true, if_false]
    | wp_step)
  exact hq
end
section
variable {prog : Program} {w : World} {A : Around} {E : Value → Shared → Prop} {R : Result → Shared → Prop} {h : Heap} {g : Array GenState} {d : Drawn} {t : Nat} {os : OsState}
variable {nm q : Str} {C N : Addr} {bs bm bmB : List Value} {hdct : Bool} {sn : List Str} {sub : List Value} {ab : Bool} {col : Option Bool} {dd : Option Addr} {k0 k1 k2 k3 k5 : Option Value} {B newId initId : String}
/-- __new__ of such a class: a tuple of what came by place, the object -/
theorem new_kw (F : ExcBaseFacts B newId initId bmB) (hT : ∀ X : String, bm.contains (.type X) = bmB.contains (.type X)) {rest : List Value} {kw : List (Str × Value)}
    (hC : h.get? C = some (excClassObj nm q C N bs bm hdct sn sub ab col dd k0 k1 k2 k3 k5 newId))
    (hq : R (.ok (.ret (.ref (h.objs.size + 1)))) ⟨(h.push (W.kdv_tup rest)).push (excO C h.objs.size), g, d, t, os⟩) (hrest : rest.length ≤ sizeLine) :
    codeAny (model prog w) A (.builtin newId ⟨.ref C :: rest, kw⟩) R ⟨h, g, d, t, os⟩ := by
  have ends := F.ends
  have isB : (Value.ref C :: bm).contains (.type B) = true := by
    rw [List.contains_cons, hT, F.hasB, Bool.or_true]
  have noA : (Value.ref C :: bm).contains (.type "AttributeError") = false := by
    rw [List.contains_cons, hT, F.noAttr]
    rfl
  have noN : (Value.ref C :: bm).contains (.type "NameError") = false := by
    rw [List.contains_cons, hT, F.noName]
    rfl
  refine codeAny_builtinAt F.entry ?_
  unfold Builtin.«BaseException.__new__»
  refine wpAt_bind ?_
  show wpAt _ _ _ (stack >>= _) _ _ _
  refine wpAt_bind (wpAt_stack fun p below => wpAt_of_wpAny ?_)
  wp_walk
  refine wpAt_of_wpAny ?_
  rw [F.owner]
  repeat (first
    | with_reducible refine wpAny_madeHere_exc F.canon hC ?_
    | with_reducible refine wpAny_loadPart_at hC ?_
    | (with_reducible refine wpAny_isSubtype_exc hC ?_; first | rw [isB] | rw [noA] | rw [noN])
    | wp_step)
  show R _ _
  rw [Heap.size_push]
  exact hq
/-- C(.., k = v): __new__, then the own __init__ -/
theorem made_kw (F : ExcBaseFacts B newId initId bmB) (hT : ∀ X : String, bm.contains (.type X) = bmB.contains (.type X)) {rest : List Value} {kw : List (Str × Value)} {fI : Addr} {Q : Fin → Shared → Prop}
    (hC : h.get? C = some (excClassObj nm q C N bs bm hdct sn sub ab col dd k0 k1 k2 k3 k5 newId))
    (hi : W.Looks (model prog w) h (typeLookup (.ref C) "__init__") (some (.ref fI))) (hb : ∀ self, W.Looks (model prog w) h (bindSpecial (.ref fI) self) (.ref fI, [self])) (hrest : rest.length ≤ sizeLine)
    (hq : codeAny (model prog w) A (.call (.ref fI) ⟨.ref (h.objs.size + 1) :: rest, kw⟩)
      (fun r s' => match r with | .ok (.ret v) => v = .none ∧ Q (.done (.ret (.ref (h.objs.size + 1)))) s' | .ok _ => False | .error e => E e s')
      ⟨(h.push (W.kdv_tup rest)).push (excO C h.objs.size), g, d, t, os⟩) :
    wpAny (model prog w) A (Builtin.«type.__call__» ⟨.ref C :: rest, kw⟩) Q E ⟨h, g, d, t, os⟩ := by
  repeat (first
    | with_reducible refine wpAny_loadPart_at hC ?_
    | with_reducible refine wpAny_madeBy_exc hC ?_
    | wp_step)
  refine codeAny_call_builtin_code (Code.quiet_builtin _ F.quiet) (look_new F hT hC ?_)
  refine new_kw F hT hC ?_ hrest
  show wpAny _ _ _ _ _ _
  have keep : ∀ b o, h.get? b = some o → ((h.push (W.kdv_tup rest)).push (excO C h.objs.size)).get? b = some o := fun b o e =>
    Heap.get?_push_of_some _ (Heap.get?_push_of_some _ e)
  have hC' := keep _ _ hC
  have hget : ((h.push (W.kdv_tup rest)).push (excO C h.objs.size)).get? (h.objs.size + 1) = some (excO C h.objs.size) := by
    heap_get
  have self : (Value.ref C :: bm).contains (.ref C) = true := by simp
  have i1 := hi.keeps keep
  have b1 := (hb (.ref (h.objs.size + 1))).keeps keep
  unfold isInstance
  repeat (first
    | with_reducible refine wpAny_loadPart_at hget ?_
    | (with_reducible refine wpAny_isSubtype_exc hC' ?_; rw [self])
    | wp_step)
  show wpAny _ _ (typeLookup (.ref C) _) _ _ _
  refine i1.at ?_
  refine wpAny_holding (wpAny_bind (b1.at ?_))
  refine wpAny_bind (wpAny_call (codeAny_mono hq fun r s' z => ?_))
  cases r with
  | error e => exact z
  | ok fl =>
    cases fl with
    | next => exact z.elim
    | brk => exact z.elim
    | cont => exact z.elim
    | ret v =>
      obtain ⟨rfl, z⟩ := z
      first
        | exact wpAny_pure (wpAny_pure z)
        | (wp_walk; exact z)
theorem look_call {M : Model} {rest : List Value} {kw : List (Str × Value)} {Q : Unit → Shared → Prop} (hC : h.get? C = some (excClassObj nm q C N bs bm hdct sn sub ab col dd k0 k1 k2 k3 k5 newId))
    (hq : Q () ⟨h, g, d, t, os⟩) : wpAny M A (checkBuiltinCall "type.__call__" ⟨.ref C :: rest, kw⟩) Q E ⟨h, g, d, t, os⟩ := by
  have f3 := tc_sub
  have isTy : (⟨h, g, d, t, os⟩ : Shared).TypeIs (.ref C) "type" := ⟨_, hC, rfl⟩
  simp only [checkBuiltinCall, tc_kind, tc_split]
  repeat (any_goals (first
    | assumption
    | with_reducible refine wpAny_loadPart_at hC ?_
    | with_reducible refine wpAny_onRaise ?_
    | with_reducible refine wpAny_map ?_
    | wp_step))
theorem call_kw (F : ExcBaseFacts B newId initId bmB) (hT : ∀ X : String, bm.contains (.type X) = bmB.contains (.type X)) {rest : List Value} {kw : List (Str × Value)} {fI : Addr}
    (hC : h.get? C = some (excClassObj nm q C N bs bm hdct sn sub ab col dd k0 k1 k2 k3 k5 newId))
    (hi : W.Looks (model prog w) h (typeLookup (.ref C) "__init__") (some (.ref fI))) (hb : ∀ self, W.Looks (model prog w) h (bindSpecial (.ref fI) self) (.ref fI, [self])) (hrest : rest.length ≤ sizeLine)
    (hq : codeAny (model prog w) (A.under (.builtin "type.__call__" ⟨.ref C :: rest, kw⟩)) (.call (.ref fI) ⟨.ref (h.objs.size + 1) :: rest, kw⟩) (W.InitBack (h.objs.size + 1) R)
      ⟨(h.push (W.kdv_tup rest)).push (excO C h.objs.size), g, d, t, os⟩) :
    codeAny (model prog w) A (.call (.ref C) ⟨rest, kw⟩) R ⟨h, g, d, t, os⟩ := by
  have f1 := tc_lookup
  have f2 := tc_bind (.ref C)
  have isTy : (⟨h, g, d, t, os⟩ : Shared).TypeIs (.ref C) "type" := ⟨_, hC, rfl⟩
  refine codeAny_of_tree ?_
  show wpAny _ _ (callAny (.ref C) _) _ _ _
  repeat (any_goals (first
    | assumption
    | with_reducible refine wpAny_loadPart_at hC ?_
    | wp_step))
  refine ⟨rfl, ?_⟩
  refine codeAny_call_builtin_at (Code.quiet_builtin _ (by decide +kernel)) entry_typeCall (look_call hC (made_kw F hT hC hi hb hrest ?_))
  refine codeAny_mono hq fun r s' z => ?_
  rcases r with e | (v | _ | _ | _) <;> exact z
end
end HouseX
end PySem

set_option Elab.async false
set_option linter.all false
set_option maxRecDepth 100000
set_option maxHeartbeats 4000000
namespace PySem
namespace HouseX
open PySem.W PySem.Calls PyProof.Rows PySem.HandSPX
/-! ### HouseError, its __init__, and the classes below it -/
def iA (p1 p2 : Pos) : Arguments := { posonlyargs := [], args := [{ arg := "self", annotation := none, pos := p1 }, { arg := "value", annotation := none, pos := p2 }], vararg := none, kwonlyargs := [], kw_defaults := [], kwarg := none, defaults := [] }
def iB (q1 q2 q3 q4 : Pos) : List Stmt := [.Assign [.Attribute (.Name "self" q1) "value" q2] (.Name "value" q3) q4]
def iS : Scope := { kind := .function, names := [(PySem.Str.ofString "self", .local), (PySem.Str.ofString "value", .local)], isGenerator := false, isCoroutine := false, more := [] }
/-- what the written part says of the base's __init__, at fI -/
def InitTxt (K : Frag) (fI : Addr) : Prop := ∃ (oc : Value) (od : Option Addr) (doc pm : Value) (an : Option Addr) (cdv ct : Value) (osl : Array (Option Value)) (p1 p2 q1 q2 q3 q4 : Pos),
    K.lookup fI = some ⟨oc, od, .func (fnOf "__init__" "HouseError.__init__" (iA p1 p2) (iB q1 q2 q3 q4) iS .none .none doc pm an cdv ct), osl⟩ ∧ codeIn K cdv "HouseError.__init__" = true
/-- what the written part says of a class of the family, at C; bm: its bases, all of them -/
structure ErrTxt (K : Frag) (C fI : Addr) (bm : List Value) : Prop where
  cls : ∃ nm q N bs sn sub ab col dd k0 k1 k2 k3 k5, K.lookup C = some (excClassObj nm q C N bs bm true sn sub ab col dd k0 k1 k2 k3 k5 "ValueError.__new__")
  bases : refsVE bm = true
  sa : findIn K (.ref C) "__setattr__" = some (some (.builtin "object.__setattr__"))
  ga : findIn K (.ref C) "__getattribute__" = some (some (.builtin "BaseException.__getattribute__"))
  gg : findIn K (.ref C) "__getattr__" = some none
  noN : findIn K (.ref C) "value" = some none
  iC : findIn K (.ref C) "__init__" = some (some (.ref fI))
  tC : typeIn K (.ref fI) = some (.type "function")
  kC : keepIn K (.ref C) = true
  exC : subIn K (.ref C) (.type "BaseException") = some true
  hdC : hasDictIn K C = true
  fn : InitTxt K fI
theorem ldC {M : Model} {s : Shared} {name : Str} {scope : Scope} {L a : Addr} {cd : Value} {m : Str → Option Value} {x : Str} {pos : Pos} {v : Value} {Q : Value → Shared → Prop} {A : Around} {E : Value → Shared → Prop} (hn : s.heap.Ns L m) (hv : m x = some v) (h : Q v s)
    (hk : scope.kind = .function := by rfl) (hl : (envOfC name scope L a cd).kindOf x = some .local := by rfl) (hd : (x == ("__debug__" : Str)) = false := by decide) :
    wpAny M A (eval (.Name x pos) (envOfC name scope L a cd)) Q E s := wpAny_Name (wpAny_loadName_local hk hl hn hv h) hd
/-- what __init__ leaves of a fresh error at x -/
structure InitEnd (h h' : Heap) (x C dx t1 : Addr) (v : Value) : Prop where
  keep : ∀ b o, b ≠ x → h.get? b = some o → h'.get? b = some o
  obj : h'.get? x = some { cls := .ref C, dict := some dx, data := .fields #[.ref t1, .none, .none, .none, .bool false, .none] }
  dbig : h.objs.size ≤ dx
  dne : dx ≠ x
  ns : h'.Ns1 dx (fun y => if y = "value" then some v else none)
/-- a made error -/
structure OwnMade (h h' : Heap) (e C d : Addr) (v : Value) : Prop where
  keep : ∀ b o, h.get? b = some o → h'.get? b = some o
  new : h.objs.size ≤ e
  obj : ∃ oe vs, h'.get? e = some oe ∧ oe.cls = .ref C ∧ oe.dict = some d ∧ oe.data = .fields vs ∧ vs[1]? = some .none
  dbig : h.objs.size ≤ d
  dne : d ≠ e
  ns : h'.Ns1 d (fun y => if y = "value" then some v else none)
/-- value by its place, or by its name -/
inductive OneArg (v : Value) : List Value → List (Str × Value) → Prop
  | place : OneArg v [v] []
  | name : OneArg v [] [("value", v)]
section
variable {prog : Program} {w : World} {A : Around} {E : Value → Shared → Prop} {R : Result → Shared → Prop} {s : Shared} {K : Frag} {C fI : Addr} {bm : List Value}
theorem err_init (T : ErrTxt K C fI bm) {x t0 : Addr} {v : Value} {us : List Value} {kw : List (Str × Value)} (ha : OneArg v us kw) (X : K.In s.heap) (hlim : s.heap.NoLimit) (hx : s.heap.get? x = some (excO C t0)) (hnx : K.lookup x = none) (hroom : A.depth < recursionLimit)
    (hq : ∀ h' tk dx, InitEnd s.heap h' x C dx t0 v → R (.ok (.ret .none)) { s with heap := h', toks := tk }) :
    codeAny (model prog w) A (.call (.ref fI) ⟨.ref x :: us, kw⟩) R s := by
  obtain ⟨oc, od, doc, pm, an, cdv, ct, osl, p1, p2, q1, q2, q3, q4, ho, hcd⟩ := T.fn
  obtain ⟨nm, q, N, bs, sn, sub, ab, col, dd, k0, k1, k2, k3, k5, hC⟩ := T.cls
  have hbm := T.bases
  have hcl : clsIn K C = some { name := nm, bases := bs, mro := .ref C :: bm, ns := N, qualname := q, hasDict := true, slotNames := sn, subclasses := sub, abstract := ab, collection := col, hasDel := false } := by
    unfold clsIn
    rw [hC] <;> rfl
  have hb : BindsTo s (fnOf "__init__" "HouseError.__init__" (iA p1 p2) (iB q1 q2 q3 q4) iS .none .none doc pm an cdv ct) ⟨.ref x :: us, kw⟩ [("self", .ref x), ("value", v)] := by
    cases ha with
    | place => exact BindsTo.of_eq (by first | rfl | with_unfolding_all rfl)
    | name => exact BindsTo.of_eq (by first | rfl | with_unfolding_all rfl)
  refine Att.call_fn (binds := [("self", .ref x), ("value", v)]) X hlim ho hcd hroom hb (by first | rfl | decide | with_unfolding_all rfl) (fun s₁ IC => ?_) rfl rfl rfl
  obtain ⟨h₁, tk₁, rfl⟩ := IC.toInCall.same
  have k : ∀ b o, s.heap.get? b = some o → h₁.get? b = some o := IC.toInCall.keep
  have hn := IC.toInCall.ns
  have hxL : s.heap.objs.size ≠ x := Nat.ne_of_gt (Heap.lt_size hx)
  have X₁ : K.In h₁ := X.keeps k
  have hx₁ := k _ _ hx
  -- self.value = value
  show wpAny _ _ (execs _ _) _ _ _
  refine wpAny_execs_cons (plainObj_wpAny_Assign_Attribute ?_)
  refine ldC (v := v) hn (by first | rfl | with_unfolding_all rfl | kernel_rfl) (ldC (v := .ref x) hn (by first | rfl | with_unfolding_all rfl | kernel_rfl) ?_)
  refine set_plain X₁ (ox := excO C t0) (od := none) ⟨hx₁, rfl, rfl, trivial⟩ T.sa ?_
  refine exc_osa X₁ hx₁ hcl (show refsVE (.ref C :: bm) = true from hbm) rfl T.noN (fun h₃ tk₃ dx k₃ dn dne hx₃ hn₃ => ?_)
  show wpAny _ _ (execs _ _) _ _ _
  have z : s.heap.objs.size < h₁.objs.size := hn.lt
  exact wpAny_execs_nil (hq h₃ tk₃ dx ⟨fun b o hb e => k₃ b o hb (k b o e), hx₃, Nat.le_of_lt (Nat.lt_of_lt_of_le z dn), dne, hn₃⟩)
theorem err_made (T : ErrTxt K C fI bm) {v : Value} {us : List Value} {kw : List (Str × Value)} (ha : OneArg v us kw) (X : K.In s.heap) (hlim : s.heap.NoLimit) (hroom : A.depth + 1 < recursionLimit)
    (hq : ∀ h' tk e d, OwnMade s.heap h' e C d v → R (.ok (.ret (.ref e))) { s with heap := h', toks := tk }) :
    codeAny (model prog w) A (.call (.ref C) ⟨us, kw⟩) R s := by
  obtain ⟨nm, q, N, bs, sn, sub, ab, col, dd, k0, k1, k2, k3, k5, hC⟩ := T.cls
  have hbm := T.bases
  obtain ⟨hp, g, dr, tk, os⟩ := s
  have k : ∀ b o, hp.get? b = some o → ((hp.push (kdv_tup us)).push (excO C hp.objs.size)).get? b = some o := fun b o e => Heap.get?_push_of_some _ (Heap.get?_push_of_some _ e)
  have hget : ((hp.push (kdv_tup us)).push (excO C hp.objs.size)).get? (hp.objs.size + 1) = some (excO C hp.objs.size) := by heap_get
  have hnx : K.lookup (hp.objs.size + 1) = none := by
    cases e : K.lookup (hp.objs.size + 1) with
    | none => rfl
    | some o =>
      have z : hp.get? (hp.objs.size + 1) = some o := X _ _ e
      exact absurd (Nat.lt_of_succ_lt (Heap.lt_size z)) (Nat.lt_irrefl _)
  have hus : us.length ≤ sizeLine := by
    rw [sizeLine_eq]
    cases ha with
    | place => exact (by decide : 1 ≤ 16777216)
    | name => exact (by decide : 0 ≤ 16777216)
  refine call_kw F.excBase_ValueError (fun X => refsVE_contains X bm hbm) (X _ _ hC) (looks_findIn X T.iC) (fun self => bind_fn X self T.tC) hus ?_
  refine err_init (s := ⟨(hp.push (kdv_tup us)).push (excO C hp.objs.size), g, dr, tk, os⟩) T ha (X.keeps k) (hlim.keeps k) hget hnx ?_ fun h' tk' dx ⟨k', hx, dn, dne, hns⟩ => ?_
  · show A.depth + 1 < recursionLimit
    exact hroom
  · have old : ∀ b o, hp.get? b = some o → h'.get? b = some o := fun b o e => k' b o (Nat.ne_of_lt (Nat.lt_succ_of_lt (Heap.lt_size e))) (k b o e)
    have z : hp.objs.size + 1 + 1 ≤ dx := by
      first
        | (simpa only [Heap.size_push] using dn)
        | exact dn
        | (have q := dn; rw [Heap.size_push, Heap.size_push] at q; exact q)
    exact ⟨rfl, hq h' tk' (hp.objs.size + 1) dx ⟨old, Nat.le_succ _, ⟨_, _, hx, rfl, rfl, rfl, rfl⟩, Nat.le_trans (Nat.le_trans (Nat.le_succ _) (Nat.le_succ _)) z, dne, hns⟩⟩
end
end HouseX
end PySem

set_option Elab.async false
set_option linter.all false
set_option maxRecDepth 100000
set_option maxHeartbeats 4000000
namespace PySem
namespace HouseX
open PySem.W PySem.Calls PyProof.Rows PySem.HandSPX
section
variable {prog : Program} {w : World} {A : Around} {E : Value → Shared → Prop} {s : Shared} {K : Frag} {x D fI : Addr} {bm : List Value}
/-- the class of an error, asked by its name -/
structure AskTxt (K : Frag) (D : Addr) : Prop where
  ha : findIn K (.ref D) "__class__" = some (some (.builtin "object.__class__"))
  hn : specialIn K (.builtin "object.__class__") "__get__" = some (some (.builtin "getset_descriptor.__get__"))
  ht : takesIn K (.builtin "object.__class__") = some true
theorem ErrTxt.clsIs (T : ErrTxt K D fI bm) : ∃ cd : ClassData, clsIn K D = some cd ∧ cd.mro = .ref D :: bm := by
  obtain ⟨nm, q, N, bs, sn, sub, ab, col, dd, k0, k1, k2, k3, k5, hC⟩ := T.cls
  refine ⟨{ name := nm, bases := bs, mro := .ref D :: bm, ns := N, qualname := q, hasDict := true, slotNames := sn, subclasses := sub, abstract := ab, collection := col, hasDel := false }, ?_, rfl⟩
  unfold clsIn
  rw [hC] <;> rfl
theorem ErrTxt.sub (T : ErrTxt K D fI bm) (base : Value) : subIn K (.ref D) base = some ((Value.ref D :: bm).contains base) := by
  obtain ⟨cd, hc, hm⟩ := T.clsIs
  show mroIn K D base = _
  unfold mroIn
  rw [hc]
  show (if cd.mro.isEmpty = true then none else some (cd.mro.contains base)) = _
  rw [hm]
  rfl
theorem ErrTxt.tyIs (T : ErrTxt K D fI bm) : typeIn K (.ref D) = some (.type "type") := by
  obtain ⟨nm, q, N, bs, sn, sub, ab, col, dd, k0, k1, k2, k3, k5, hC⟩ := T.cls
  show (K.lookup D).map (·.cls) = _
  rw [hC]
  rfl
/-- isinstance of an error of the class D, asked of the class C -/
theorem ErrTxt.kit {C gI : Addr} {bn : List Value} (T : ErrTxt K D fI bm) (U : ErrTxt K C gI bn) : kitOne K (.ref D) (.ref C) = some ((Value.ref D :: bm).contains (.ref C)) := by
  unfold kitOne
  by_cases e : ((Value.ref D == Value.ref C) = true)
  · rw [if_pos e]
    have e2 : Value.ref D = Value.ref C := beq_iff_eq.mp e
    rw [e2]
    simp
  · rw [if_neg e]
    obtain ⟨cd, hc, _⟩ := U.clsIs
    show (if ((clsIn K C).isSome && typeIn K (.ref C) == some (.type "type")) = true then subIn K (.ref D) (.ref C) else none) = _
    rw [hc, U.tyIs, if_pos (by rfl), T.sub]
theorem ErrTxt.kitTy (T : ErrTxt K D fI bm) {n : String} (h : kitMeta n = true) : kitOne K (.ref D) (.type n) = some (bm.contains (.type n)) := by
  unfold kitOne
  rw [if_neg (by exact fun z => nomatch (beq_iff_eq.mp z : Value.ref D = Value.type n))]
  show (if kitMeta n = true then subIn K (.ref D) (.type n) else none) = _
  rw [if_pos h, T.sub, List.contains_cons]
  have : (Value.type n == Value.ref D) = false := rfl
  rw [this, Bool.false_or]
theorem askData {od : Option Obj} (T : ErrTxt K D fI bm) (S : AskTxt K D) : findObj K D od "__class__" = some (.bind (.builtin "getset_descriptor.__get__") (.builtin "object.__class__")) := by
  obtain ⟨cd, hc, _⟩ := T.clsIs
  unfold findObj
  rw [hc, Option.bind_some, S.ha, Option.bind_some]
  simp [S.hn, S.ht]
theorem askClass {ox : Obj} {od : Option Obj} {Q : Option Value → Shared → Prop} (T : ErrTxt K D fI bm) (S : AskTxt K D) (hm : mroIn K D (.type "object") = some true)
    (X : K.In s.heap) (I : InstAt s.heap x ox D od) (h : Q (some (.ref D)) { s with toks := s.toks + 1 }) : wpAny (model prog w) A (getAttr? (.ref x) "__class__") Q E s := by
  have hf := askData (od := od) T S
  obtain ⟨hp, g, d, t, os⟩ := s
  have L0 := I.type (M := model prog w)
  have L1 := looks_findIn (M := model prog w) X T.ga
  have L2 := looks_findIn (M := model prog w) X T.gg
  have L3 := looks_find (M := model prog w) X I hf
  have isB : Looks (model prog w) hp (isInstance (.ref x) (.type "BaseException")) true := L0.andThen (looks_subIn X T.exC)
  have z0 : (false && onTheHeap (Value.builtin "BaseException.__getattribute__")) = false := rfl
  have z2 : (Value.builtin "BaseException.__getattribute__" == Value.builtin "object.__getattribute__") = false := by
    decide +kernel
  have z1 : (onTheHeap (Value.ref D) && Value.builtin "BaseException.__getattribute__" == Value.builtin "object.__getattribute__") = false := by
    rw [z2]
    rfl
  unfold getAttr? getAttrBy? getAttrBy
  refine wpAny_bind (wpAny_mkText (wpAny_bind (wpAny_attempt (wpAny_holding (wpAny_bind (L0.at (wpAny_bind (L1.at ?_))))))))
  show wpAny _ _ (if (onTheHeap (Value.ref D) && Value.builtin "BaseException.__getattribute__" == Value.builtin "object.__getattribute__") = true then _ else _) _ _ _
  rw [z1, if_neg Bool.false_ne_true]
  unfold getAttrByItsOwn hookBefore
  refine wpAny_bind ?_
  rw [if_pos (show onTheHeap (Value.ref D) = true from rfl)]
  refine L2.at ?_
  refine wpAny_bind (wpAny_attempt (wpAny_holding ?_))
  unfold callGetattribute
  rw [z0, if_neg Bool.false_ne_true]
  unfold boundAndCalled
  rw [PySem.F.excAttr_ValueError.ga.bind (.ref x)]
  refine wpAny_bind (wpAny_pure ?_)
  show wpAny _ _ (call (.builtin "BaseException.__getattribute__") [.ref x, .str "__class__" t]) _ _ _
  refine wpAny_call (codeAny_call_builtin PySem.F.excAttr_ValueError.ga.plain PySem.F.entry_bexc_ga ?_)
  refine @check_slot (model prog w) _ _ ⟨hp, g, d, t + 1, os⟩ "BaseException.__getattribute__" "BaseException" "__getattribute__" (.ref x) [.str "__class__" t] [] _ (by decide +kernel) (by decide +kernel) isB (PySem.F.args_bexc_ga (.ref x) (.str "__class__" t)) ?_
  unfold Builtin.«object.__getattribute__»
  refine wpAny_bind (wpAny_of_eq (a := ((Value.ref x : Value), [Value.str "__class__" t])) (by first | rfl | (simp only [slotArgs]; rfl)) ?_)
  refine wpAny_bind (wpAny_pure (wpAny_bind (L0.at (wpAny_bind (L3.at ?_)))))
  show wpAny _ _ (holding [Value.builtin "object.__class__"] (call (.builtin "getset_descriptor.__get__") [.builtin "object.__class__", .ref x, .ref D]) >>= ret) _ _ _
  refine wpAny_bind (wpAny_holding (wpAny_call (class_get (s := ⟨hp, g, d, t + 1, os⟩) (ox := ox) (od := od) X I hm ?_)))
  refine wpAny_pure ?_
  show wpAny _ _ (handedOut (.ref D)) _ _ _
  rw [handedOut_of (v := .ref D) rfl]
  first
    | exact wpAny_pure (wpAny_pure h)
    | exact wpAny_pure h
    | exact wpAny_pure (wpAny_bind (wpAny_pure (wpAny_pure h)))
theorem kitErr (T : ErrTxt K D fI bm) (S : AskTxt K D) (hm : mroIn K D (.type "object") = some true) : KitX K (.ref x) (.ref D) (fun h => ∃ ox od, InstAt h x ox D od) where
  ty := fun _ _ _ ⟨_, _, I⟩ => I.type
  it := fun _ _ X _ => by
    obtain ⟨nm, q, N, bs, sn, sub, ab, col, dd, k0, k1, k2, k3, k5, hC⟩ := T.cls
    intro A' Q' E' s' k q
    unfold isType loadHead
    exact wpAny_bind (wpAny_loadPart (k _ _ (X _ _ hC)) (wpAny_pure q))
  ne := fun h tp dd its n sl X htp => by
    obtain ⟨nm, q, N, bs, sn, sub, ab, col, dd, k0, k1, k2, k3, k5, hC⟩ := T.cls
    refine Bool.eq_false_iff.mpr fun q => ?_
    have e : D = tp := Value.ref.inj (beq_iff_eq.mp q)
    subst e
    have z := congrArg Obj.cls (Option.some.inj ((X _ _ hC).symm.trans htp))
    have z2 : Value.type "type" = Value.type "tuple" := z
    injection z2 with z3
    exact absurd z3 (by decide)
  ca := fun X ⟨_, _, I⟩ k => askClass T S hm X I k
end
end HouseX
end PySem

namespace L2
open PySem PySem.Spec PyProof.Rows PySem.HouseX
/-- an error of the class at C, whose dict stands at d -/
def ErrO (C d a : Addr) : HO := .ext fun h => ∃ (oe : Obj) (vs : Array Value), h.get? a = some oe ∧ oe.cls = .ref C ∧ oe.dict = some d ∧ oe.data = .fields vs
theorem errO_ok {P : Program} {w : World} {H : Hp} {h : Heap} {a C d : Addr} {oe : Obj} {vs : Array Value} (e : h.get? a = some oe) (c : oe.cls = .ref C) (k : oe.dict = some d) (f : oe.data = .fields vs) : ObjOk P w H h a (ErrO C d a) :=
  ⟨⟨oe, vs, e, c, k, f⟩, ⟨oe, e⟩, fun _ _ ⟨o, v, q, r⟩ st => ⟨o, v, st o q, r⟩⟩
section
variable {X : Cx} {C fI : Addr} {bm : List Value}
theorem run_err {pins : List (Addr × Obj)} {σ : St} {H : Hp} {s : Shared} {Q : VK} {v : V} {v' : Value} {us : List Value} {kw : List (Str × Value)} {k : Nat} (T : ErrTxt X.K C fI bm) (hr : Room (k + 1) X.A) (I : Inv X pins σ H s) (r : RelV v v') (ha : OneArg v' us kw)
    (h : ∀ e d, H e = none → H d = none → e ≠ d → Q (.ref e) (upd (upd H d (.xd [(("value" : Str), v)])) e (ErrO C d e))) :
    wpAny (model X.prog X.w) X.A (call (.ref C) us kw) (EP X pins σ Q) X.xe s := by
  have hlim := I.nolimit
  obtain ⟨hp, g, dr, tk, os⟩ := s
  refine wpAny_call (err_made T ha I.kIn hlim (by have := hr.dp; omega) fun h' tk' e d M => ?_)
  obtain ⟨oe, fv, hoe, hc, hd, hdat, h1⟩ := M.obj
  have hns := M.ns
  obtain ⟨G', g1, g2⟩ := restrict h' fun b => decide (b ≠ e)
  have gk : ∀ b, b ≠ e → G'.get? b = h'.get? b := fun b hb => g1 b (decide_eq_true hb)
  have ge : G'.get? e = none := g2 e (by simp)
  have old : ∀ b o, hp.get? b = some o → G'.get? b = some o := fun b o q => (gk b (Nat.ne_of_lt (Nat.lt_of_lt_of_le (Heap.lt_size q) M.new))).trans (M.keep b o q)
  have rel : ∀ f : Str, RelO (List.lookup f [(("value" : Str), v)]) (if f = "value" then some v' else none) := fun f => by
    by_cases hw : f = "value"
    · subst hw
      rw [if_pos rfl]
      have q : List.lookup ("value" : Str) [(("value" : Str), v)] = some v := by simp [List.lookup]
      rw [q]
      exact r
    · rw [if_neg hw]
      have qw : (f == ("value" : Str)) = false := by simpa using hw
      have q2 : List.lookup f [(("value" : Str), v)] = none := by simp [List.lookup, qw]
      rw [q2]
      trivial
  have ob : ObjOk X.prog X.w (upd H d (.xd [(("value" : Str), v)])) G' d (.xd [(("value" : Str), v)]) :=
    ⟨_, hns.at (fun o q => (gk d M.dne).trans q), rel⟩
  have J : Inv X pins σ (upd H d (.xd [(("value" : Str), v)])) ⟨G', g, dr, tk', os⟩ := I.laid (t' := tk') old M.dbig ob
  have hne : H e = none := I.hok.fresh M.new
  have hnd : H d = none := I.hok.fresh M.dbig
  have hn : (upd H d (.xd [(("value" : Str), v)])) e = none := by
    rw [upd_ne (Ne.symm M.dne)]
    exact hne
  have keep2 : ∀ b u, G'.get? b = some u → h'.get? b = some u := fun b u q => by
    by_cases hb : b = e
    · rw [hb, ge] at q
      cases q
    · exact (gk b hb).symm.trans q
  have J2 := J.laidN (t' := tk') keep2 ge hn (errO_ok (P := X.prog) (w := X.w) hoe hc hd hdat)
  exact ⟨.ref e, _, J2, rfl, h e d hne hnd (Ne.symm M.dne)⟩
/-- C(e) -/
def tErr (C : Addr) (ta : TA) : TE := fun σ H Q => ta σ H fun vs H1 => ∃ v, vs = [v] ∧ ∀ e d, H1 e = none → H1 d = none → e ≠ d → Q (.ref e) (upd (upd H1 d (.xd [(("value" : Str), v)])) e (ErrO C d e))
theorem pe_err {x : Str} {a : Expr} {ta : TA} {p pos : Pos} {k : Nat} (T : ErrTxt X.K C fI bm) (gC : X.mg x = some (.ref C)) (hr : Room (k + 1) X.A) (ha : PA X [a] ta) (hg : Gl X x)
    (he : starEach (a :: []) X.env = (false, eval a X.env) :: starEach [] X.env := by rfl) (hpl : (backTo pos (starEach [] X.env)).any (·.1) = false := by rfl) (hdb : (x == ("__debug__" : Str)) = false := by decide) :
    PE X (.Call (.Name x p) [a] [] pos) (tErr C ta) := by
  refine ⟨fun pins s σ H Q I h => ?_⟩
  refine wpAny_Call_Name_kw (ld_glob I hg gC ?_ hdb)
  refine PySem.W.callWith_K (h₀ := X.base) I.ok.mod.kin T.kC (thn (ha.run pos pins s σ H _ I h) fun us s1 hh => ?_) he hpl
  obtain ⟨vs, H1, I1, r1, v, ev, q1⟩ := hh
  subst ev
  refine ⟨I1.kIn, ?_⟩
  cases r1 with
  | cons rv rn =>
    cases rn
    exact run_err T hr I1 rv .place q1
/-- C(value=e) -/
def tErrK (C : Addr) (tk : TA) : TE := fun σ H Q => tk σ H fun vs H1 => ∃ v, vs = [v] ∧ ∀ e d, H1 e = none → H1 d = none → e ≠ d → Q (.ref e) (upd (upd H1 d (.xd [(("value" : Str), v)])) e (ErrO C d e))
theorem pe_errK {x : Str} {kws : List Keyword} {tk : TA} {p pos : Pos} {k : Nat} (T : ErrTxt X.K C fI bm) (gC : X.mg x = some (.ref C)) (hr : Room (k + 1) X.A) (hkw : PK X kws tk) (hg : Gl X x)
    (hall : (backToKw pos (keywordEach kws X.env)).all (·.1.isSome) = true := by rfl) (hks : (backToKw pos (keywordEach kws X.env)).filterMap (·.1) = [("value" : Str)] := by rfl) (hdb : (x == ("__debug__" : Str)) = false := by decide)
    (hpl : ((backTo pos (starEach [] X.env)).any (·.1) || (backToKw pos (keywordEach kws X.env)).any (·.1.isNone)) = false := by rfl) :
    PE X (.Call (.Name x p) [] kws pos) (tErrK C tk) := by
  refine ⟨fun pins s σ H Q I h => ?_⟩
  refine wpAny_Call_Name_kw (ld_glob I hg gC ?_ hdb)
  refine PySem.W.callWith_KW0 (h₀ := X.base) I.ok.mod.kin T.kC hall ?_ hpl
  refine thn (hkw.run pos pins s σ H _ I h) fun ws s2 ⟨zs, H2, I2, rz, v, ev, q2⟩ => ⟨I2.kIn, ?_⟩
  rw [hks]
  subst ev
  cases rz with
  | cons rv rn =>
    cases rn
    exact run_err (us := []) T hr I2 rv .name q2
/-- e.value, e an error that stands in H -/
def tValue (K : PySem.W.Frag) (te : TE) : TE := fun σ H Q => te σ H fun x H1 => ∃ (a C d fI : Addr) (bm : List Value) (v : V), x = .ref a ∧ ErrTxt K C fI bm ∧ H1 a = some (ErrO C d a) ∧ H1 d = some (.xd [(("value" : Str), v)]) ∧ Q v H1
theorem inst_err {H : Hp} {h : Heap} {P : Program} {w : World} {a C d : Addr} {v : V} (hok : HOk P w H h) (e1 : H a = some (ErrO C d a)) (e2 : H d = some (.xd [(("value" : Str), v)])) :
    ∃ oe od u, PySem.W.InstAt h a oe C (some od) ∧ PySem.W.lookIn "value" od = some (some u) ∧ RelV v u := by
  obtain ⟨⟨oe, vs, ho, hc, hd, hf⟩, _, _⟩ := hok a _ e1
  obtain ⟨mA, hns, hr⟩ := (show ObjOk P w H h d (.xd [(("value" : Str), v)]) from hok d _ e2)
  obtain ⟨od, hod, hl⟩ := lookIn_ns hns
  have l : List.lookup ("value" : Str) [(("value" : Str), v)] = some v := by simp [List.lookup]
  obtain ⟨u, hu, ru⟩ := RelO.some_of (v := v) (o := mA "value") (by rw [← l]; exact hr "value")
  refine ⟨oe, od, u, ⟨ho, hc, ?_, ?_⟩, by rw [hl, hu], ru⟩
  · unfold PySem.W.notCls
    rw [hf] <;> rfl
  · rw [hd]
    exact hod
theorem pe_value {e : Expr} {te : TE} {pos : Pos} (he : PE X e te) (hb : attributeBase e "value" X.env (eval e X.env) = eval e X.env := by rfl) : PE X (.Attribute e "value" pos) (tValue X.K te) := by
  refine ⟨fun pins s σ H Q I h => ?_⟩
  refine attr_of hb (thn (he.run pins s σ H _ I h) fun u s1 hh => ?_)
  obtain ⟨x, H1, I1, rx, a, C, d, fI, bm, v, ex, T, ea, ed, q⟩ := hh
  subst ex
  obtain rfl : u = Value.ref a := rx
  obtain ⟨oe, od, u, J, hl, ru⟩ := inst_err I1.hok ea ed
  exact PySem.HandSPX.exc_get I1.kIn J T.ga T.gg T.exC (PySem.W.findObj_own T.hdC T.noN rfl hl) (handed_of ru) ⟨v, H1, I1.tok _, ru, q⟩
/-- isinstance(e, c), e an error that stands in H -/
def rIsErr (K : PySem.W.Frag) : List V → Hp → VK → Prop := fun xs H Q => ∃ (a D d fI : Addr) (bm : List Value) (v c : V) (cv : Value) (b : Bool), xs = [.ref a, c] ∧ ErrTxt K D fI bm ∧ AskTxt K D ∧ PySem.W.mroIn K D (.type "object") = some true ∧
  H a = some (ErrO D d a) ∧ H d = some (.xd [(("value" : Str), v)]) ∧ ClsV c cv ∧ PySem.W.kitOne K (.ref D) cv = some b ∧ Q (.bl b) H
theorem call_isErr : CallR X (.builtin "isinstance") (rIsErr X.K) := by
  intro pins s σ H xs us Q I r h
  obtain ⟨a, D, d, fI, bm, v, c, cv, b, rfl, T, S, hm, e1, e2, hcv, e, q⟩ := h
  obtain ⟨u1, u2, rfl, r1, r2⟩ := vals2 r
  have z := hcv.eq r2
  subst z
  obtain rfl : u1 = Value.ref a := r1
  obtain ⟨oe, od, u, J, hl, ru⟩ := inst_err I.hok e1 e2
  exact PySem.W.kia_one (kitErr T S hm) I.kIn ⟨oe, some od, J⟩ e (fun z => nomatch z) fun tk => ⟨.bl b, H, I.tok tk, rfl, q⟩
/-- repr(x), x data -/
def rReprD (K : PySem.W.Frag) : List V → Hp → VK → Prop := fun xs H Q => ∃ (x : V) (d : PyData), xs = [x] ∧ Dp K H x d ∧ d.showable = true ∧ d.hasDict = false ∧ isDisplay d = true ∧ d.depth ≤ 60 ∧ d.shown.length ≤ sizeLine ∧ Q (.str d.shown) H
theorem call_reprD (hg : X.A.guards = some []) (hu : X.A.units + 65 < cLine) : CallR X (.builtin "repr") (rReprD X.K) := by
  intro pins s σ H xs us Q I r h
  obtain ⟨x, d, rfl, hd, hs, hn, hi, hdep, hsz, q⟩ := h
  cases r with
  | cons rx rr =>
    cases rr
    rename_i u
    obtain ⟨as, r1⟩ := Dp.reads I d x u hd rx
    obtain ⟨a, rfl⟩ := isRef_of_reads r1 hi
    exact repr_of_reads' r1 hs (PyData.noDict_hsm hn) hg (by omega) (fun _ _ e => e) (fun h' u tk hk => ⟨.str d.shown, H, I.kept (t' := tk) hk, ⟨_, rfl⟩, q⟩) hsz
end
end L2

set_option Elab.async false
set_option linter.all false
set_option maxRecDepth 100000
set_option maxHeartbeats 4000000
/-! defs that may ask whether a list is being shown: nothing is, around them -/
namespace L2
open PySem PySem.Spec PyProof.Rows
structure FnG (P : Program) (w : World) (K : PySem.W.Frag) (mg : Str → Option Value) (base : Heap) (k : Nat) (f : Addr) (fd : FuncData) (ps : List Str) (sp : Sp) : Prop where
  len : ∀ vs H Q E, sp vs H Q E → vs.length = ps.length
  run : ∀ (A : Around) (outer : List Env) (s : Shared) (H : Hp) (args : Args) (us : List Value) (vs : List V) (Q : VK) (E : XK), A.guards = some [] → Room k A → Env0 P w K mg base A outer s H → BindsTo s fd args (ps.zip us) → Vals vs us →
    sp vs H Q E → codeAny (model P w) A (.call (.ref f) args) (CR CX0 outer P w H s Q E) s
theorem guards_deeper {A : Around} {env : Env} (h : A.guards = some []) : (A.deeper env).guards = some [] := by
  first
    | exact h
    | (simp [Around.deeper, h])
section
variable {P : Program} {w : World} {K : PySem.W.Frag} {mg : Str → Option Value} {base : Heap}
theorem Fun.okG {x qual : Str} {st : Stmt} {f : Addr} {fd : FuncData} {N ps : List Str} {k : Nat} {sp : Sp} (F : Fun K x qual st f fd) (S : FnScope N ps (defScope st)) (len : ∀ vs H Q E, sp vs H Q E → vs.length = ps.length)
    (hbody : ∀ (cdv : Value) (A : Around) (outer : List Env) (s : Shared) (H : Hp) (vs : List V) (Q : VK) (E : XK), (A.deeper (envOfC qual (defScope st) s.heap.objs.size f cdv)).guards = some [] →
      Room k (A.deeper (envOfC qual (defScope st) s.heap.objs.size f cdv)) → sp vs H Q E →
      ∃ t, PSs (cxOf CX0 P w K mg base N qual (defScope st) f cdv A outer s H E).nox (defBody st) t ∧ t { nx := fun _ H' => Q .non H', rt := Q } (start N vs) H) : FnG P w K mg base (k + 1) f fd ps sp := by
  obtain ⟨oc, od, kV, doc, pm, an, cdv, ct, osl, rfl, lk, hcd⟩ := F.ex
  refine ⟨len, fun A outer s H args us vs Q E hg hr e0 hb r hsp => ?_⟩
  have one := len _ _ _ _ hsp
  have inK : K.In s.heap := e0.mod.kin.keeps fun b o e => (e0.bs b o e).1
  have lim : s.heap.NoLimit := e0.mod.nolimit.keeps fun b o e => (e0.bs b o e).1
  have kinds : ∀ y ∈ ps.zip us, (defScope st).names.lookup y.1 = some .local ∨ ((defScope st).names.lookup y.1 = some .cell ∧ ((cellsFrom (s.heap.objs.size + 1) (defScope st).names []).lookup y.1).isSome = true) := by
    intro y hy
    rcases S.par y.1 (List.of_mem_zip hy).1 with q | q
    · exact .inl q
    · exact .inr ⟨q, PySem.W.cellsFrom_some _ _ _ (.inl q)⟩
  refine codeAny_call_function hr.depth (inK _ _ lk) rfl S.co S.gen rfl (PySem.W.codeRec_of inK hcd) (hb _ _ _ _ ?_)
  refine wpAny_newFunctionEnv_cells S.kind kinds fun env he s1 x => ?_
  subst he
  refine ⟨lim.keeps x.toInCall.keep, codeAny_func ?_⟩
  obtain ⟨t, ht0, hq⟩ := hbody cdv A outer s H vs Q E (guards_deeper hg) (hr.deeper _) hsp
  have ht := ht0.nox
  have I : Inv (cxOf CX0 P w K mg base N qual (defScope st) f cdv A outer s H E) [] (start N vs) H s1 := inv_start S hr.hd e0 one r x
  refine wpAny_mono (ht.run [] s1 (start N vs) H _ I hq) (fun fl s' hs => ?_) fun e s' hs => hs
  cases fl with
  | ret u =>
    obtain ⟨v, σ', H', J, rv, q⟩ := hs
    exact ⟨v, H', J.os, J.bare, J.base, J.hok, rv, q⟩
  | next =>
    obtain ⟨σ', H', J, q⟩ := hs
    exact ⟨V.non, H', J.os, J.bare, J.base, J.hok, rfl, q⟩
  | brk =>
    obtain ⟨_, _, _, q⟩ := hs
    exact q.elim
  | cont =>
    obtain ⟨_, _, _, q⟩ := hs
    exact q.elim
end
section
variable {X : Cx} {k : Nat} {f : Addr} {fd : FuncData} {ps : List Str} {sp : Sp} {x : Str} {p pos : Pos} {e : Expr} {es : List Expr} {t : TA}
theorem run_fnG {pins : List (Addr × Obj)} {σ : St} {H : Hp} {s : Shared} {Q : VK} {us : List Value} {vs : List V} (F : FnG X.prog X.w X.K X.mg X.base k f fd ps sp) (hg : X.A.guards = some []) (hr : Room k X.A) (hb : Binds X.K fd ps [])
    (I : Inv X pins σ H s) (r : Vals vs us) (h : sp vs H Q E0) : wpAny (model X.prog X.w) X.A (call (.ref f) us) (EP X pins σ Q) X.xe s := by
  have many : us.length = ps.length := by
    rw [← r.length]
    exact F.len _ _ _ _ h
  have bind : BindsTo s fd ⟨us, []⟩ (ps.zip us) := by
    have z := hb s us I.kIn (by simpa using many)
    simpa using z
  refine wpAny_call (codeAny_mono (F.run X.A X.stack s H ⟨us, []⟩ us vs Q E0 hg hr I.env0 bind r h) fun r s' hq => ?_)
  cases r with
  | error e => exact False.elim hq
  | ok fl =>
    cases fl with
    | ret u => exact I.after hq
    | next => exact hq.elim
    | brk => exact hq.elim
    | cont => exact hq.elim
theorem pe_callG (F : FnG X.prog X.w X.K X.mg X.base k f fd ps sp) (hG : X.A.guards = some []) (hr : Room k X.A) (hg : Gl X x) (hm : X.mg x = some (.ref f)) (hk : PySem.W.keepIn X.K (.ref f) = true) (hb : Binds X.K fd ps [])
    (ha : PA X (e :: es) t) (hdb : (x == ("__debug__" : Str)) = false := by decide) (he : starEach (e :: es) X.env = (false, eval e X.env) :: starEach es X.env := by rfl) (hpl : (backTo pos (starEach es X.env)).any (·.1) = false := by rfl) :
    PE X (.Call (.Name x p) (e :: es) [] pos) (fun σ H Q => t σ H fun vs H1 => sp vs H1 Q E0) := by
  refine ⟨fun pins s σ H Q I h => ?_⟩
  refine wpAny_Call_Name_kw (ld_glob I hg hm ?_ hdb)
  refine PySem.W.callWith_K (h₀ := X.base) I.ok.mod.kin hk (thn (ha.run pos pins s σ H _ I h) fun us s1 ⟨vs, H1, I1, r, q⟩ => ⟨I1.kIn, ?_⟩) he hpl
  exact run_fnG F hG hr hb I1 r q
end
theorem law_callG {P : Program} {w : World} {K : PySem.W.Frag} {mg mb : Str → Option Value} {k : Nat} {fa a : Addr} {fd : FuncData} {x : Str} {sp : Sp} {s₁ : Shared} {vs : List Value} {ns : List Int}
    (KX : K.In s₁.heap) (hns : s₁.heap.Ns mainGlobals mg) (hb : s₁.heap.Ns builtinsNs mb) (hbb : ∀ x : Str, x ≠ "__name__" → mb x = bootBuiltins x) (hlim : s₁.heap.NoLimit) (hg : s₁.gens = #[])
    (ha : s₁.heap.get? a = some { cls := .type "list", data := .seq vs.toArray }) (hi : IntsAre vs ns) (hl : ns.length ≤ sizeLine) (hr : Room k callerA)
    (F : ∀ base : Heap, K.In base → base.Ns mainGlobals mg → FnG P w K mg base k fa fd [x] sp) (hbind : ∀ (s : Shared) (u : Value), BindsTo s fd ⟨[u], []⟩ [(x, u)])
    (hsp : ∀ H : Hp, Only H → SqL K H a (ns.map V.int) → sp [.ref a] H (fun v _ => v = .bl true) fun _ _ _ => False) :
    codeAny (model P w) callerA (.call (.ref fa) ⟨[.ref a], []⟩) (fun r s' => r = .ok (.ret (.bool true)) ∧ OldK s₁.heap s'.heap ∧ s'.os = s₁.os ∧ AllBare s'.gens) s₁ := by
  have rv := vals_ints hi
  have lens := hi.length
  have core : ∀ H : Hp, Only H → SqL K H a (ns.map V.int) → HOk P w H s₁.heap → (∀ b, H b ≠ none → b = a) → (H a ≠ none → K.lookup a = none) →
      codeAny (model P w) callerA (.call (.ref fa) ⟨[.ref a], []⟩) (fun r s' => r = .ok (.ret (.bool true)) ∧ OldK s₁.heap s'.heap ∧ s'.os = s₁.os ∧ AllBare s'.gens) s₁ := by
    intro H only hS hok atA outK
    have hid : ∀ {b : Addr} {o : Obj}, s₁.heap.get? b = some o → H b = none → (hidT s₁.heap H).get? b = some o := fun e n => hidT_get e n
    have dict : ∀ {b : Addr} {o : Obj} {es : Array DictEntry} {ep : Nat}, s₁.heap.get? b = some o → o.data = .dict es ep → H b = none := by
      intro b o es ep e d
      cases q : H b with
      | none => rfl
      | some u =>
        have e' : b = a := atA b (by rw [q]; simp)
        subst e'
        rw [ha] at e
        cases e
        have d' : Data.seq vs.toArray _ = Data.dict es ep := d
        cases d'
    have nsH : ∀ {b : Addr} {m : Str → Option Value}, s₁.heap.Ns b m → (hidT s₁.heap H).Ns b m := by
      intro b m h
      obtain ⟨o, es, ep, e, d, r⟩ := h
      exact ⟨o, es, ep, hid e (dict e d), d, r⟩
    have inH : K.In (hidT s₁.heap H) := by
      intro b o e
      refine hid (KX b o e) ?_
      cases q : H b with
      | none => rfl
      | some u =>
        have e' : b = a := atA b (by rw [q]; simp)
        subst e'
        rw [outK (by rw [q]; simp)] at e
        cases e
    have hM : Mod K mg (hidT s₁.heap H) := by
      obtain ⟨mc, h1, h2⟩ := hlim
      exact ⟨inH, nsH hns, ⟨mb, nsH hb, hbb⟩, mc, nsH h1, h2⟩
    have e0 : Env0 P w K mg (hidT s₁.heap H) callerA [] s₁ H :=
      ⟨rfl, hM, fun b o e => of_hidT e, Nat.le_of_eq (hidT_size _ _), trivial, fun b hb => absurd (show b ∈ ([] : List Addr) from hb) (by simp), hok, .of_eq hg⟩
    refine codeAny_mono ((F _ inH (nsH hns)).run callerA [] s₁ H ⟨[.ref a], []⟩ [.ref a] [.ref a] _ _ rfl hr e0 (hbind s₁ (.ref a)) (.cons rfl .nil) (hsp H only hS)) fun r s' h => ?_
    cases r with
    | error e => exact False.elim h
    | ok fl =>
      cases fl with
      | next => exact h.elim
      | brk => exact h.elim
      | cont => exact h.elim
      | ret u =>
        obtain ⟨v, H', os, bare, un, hok', r', q⟩ := h
        obtain rfl : v = .bl true := q
        obtain rfl : u = Value.bool true := r'
        refine ⟨rfl, OldK.of_keep fun b o e => ?_, os, bare⟩
        cases q : H b with
        | none => exact un.keep b o e q (fun z => nomatch z) (by simp)
        | some u =>
          rcases only b with z | ⟨ob, xs, z⟩
          · rw [q] at z
            cases z
          · have z2 := un.frzs b ob _ z
            obtain ⟨e1, _⟩ := hok b _ z
            obtain ⟨e2, _⟩ := hok' b _ z2
            rw [e] at e1
            cases e1
            exact e2
  cases hk : K.lookup a with
  | some o =>
    have e := KX a o hk
    rw [ha] at e
    cases e
    have len : vs.toArray.size ≤ sizeLine := by
      rw [List.size_toArray, lens]
      exact hl
    exact core (fun _ => none) (fun _ => .inl rfl) (.inr ⟨_, vs.toArray, _, hk, rfl, rfl, rfl, len, by simpa using rv⟩) (fun b u z => nomatch (show (none : Option HO) = some u from z)) (fun b z => absurd rfl z) fun z => absurd rfl z
  | none =>
    have here : ∀ b : Addr, b = a ∨ b ≠ a := fun b => Decidable.em (b = a)
    refine core (fun b => if b = a then some (.frz { cls := .type "list", data := .seq vs.toArray } (.lst (ns.map V.int))) else none) (fun b => ?_) (.inl (.inr ⟨{ cls := .type "list", data := .seq vs.toArray }, if_pos rfl⟩)) (fun b u z => ?_) (fun b z => ?_) fun _ => hk
    · rcases here b with hb | hb
      · exact .inr ⟨_, _, if_pos hb⟩
      · exact .inl (if_neg hb)
    · rcases here b with hb | hb
      · have z' := (if_pos hb).symm.trans z
        cases z'
        subst hb
        exact ⟨ha, by rw [List.length_map]; exact hl, vs, _, rv, ha⟩
      · have z' := (if_neg hb).symm.trans z
        cases z'
    · rcases here b with hb | hb
      · exact hb
      · exact absurd (if_neg hb) z
theorem walk_ofG {l : PySem.W.OpenLaw} {n k : Nat} {q : Program} {loose : List Str} {XP : (Str → Option Value) → Heap → Prop} {YP : World → Heap → Prop} {d : DefRec} {K : Params → PySem.W.Frag} {sp : World → Sp} {x : Str}
    (hn : l.most = some n) (hn2 : n ≤ sizeLine) (hdf : d.params.defaults = []) (hr : Room k callerA)
    (hY : ∀ (w : World) (h : Heap), YP w h → (K w.params).In h)
    (F : ∀ (w : World) (mg : Str → Option Value) (fa : Addr) (h : Heap), (K w.params).In h → h.Ns mainGlobals mg → mg d.name = some (.ref fa) →
      ∃ fd : FuncData, (∀ (s : Shared) (u : Value), BindsTo s fd ⟨[u], []⟩ [(x, u)]) ∧
        ∀ base : Heap, (K w.params).In base → base.Ns mainGlobals mg → FnG l.prog w (K w.params) mg base k fa fd [x] (sp w))
    (hsp : ∀ (w : World) (H : Hp) (a : Addr) (ns : List Int), ns.length ≤ n → (∀ z ∈ ns, Builtin.Int.intBits z ≤ 1048576) → Only H → SqL (K w.params) H a (ns.map V.int) → sp w [.ref a] H (fun v _ => v = .bl true) fun _ _ _ => False) :
    PySem.W.WalkO q loose XP YP l.row.toRowW d [] (fun f vs => PySem.call f vs) := by
  refine Att.attach_callB hn hdf fun w s₀ s₁ mg mb fa o pm cd doc a vs ns G Y ho hd hcd hmg hobj hints hlen hbits hg => ?_
  have inK := hY w _ Y
  obtain ⟨fd, hb, hF⟩ := F w mg fa _ inK G.T.g hmg
  exact law_callG inK G.T.g G.T.b G.T.builtins G.T.nolimit hg hobj hints (Nat.le_trans hlen hn2) hr hF hb fun H only hS => hsp w H a ns hlen hbits only hS
end L2
namespace L2
open PySem PySem.Spec PyProof.Rows PySem.HouseX
section
variable {X : Cx}
/-- repr(x), x any data -/
def rRepr (K : PySem.W.Frag) : List V → Hp → VK → Prop := fun xs H Q => ∃ (x : V) (d : PyData), xs = [x] ∧ Dp K H x d ∧ d.showable = true ∧ d.hasDict = false ∧ d.depth ≤ 60 ∧ d.shown.length ≤ sizeLine ∧ Q (.str d.shown) H
theorem call_repr (hg : X.A.guards = some []) (hu : X.A.units + 65 < cLine) : CallR X (.builtin "repr") (rRepr X.K) := by
  intro pins s σ H xs us Q I r h
  obtain ⟨x, d, rfl, hd, hs, hn, hdep, hsz, q⟩ := h
  cases hi : isDisplay d with
  | true => exact call_reprD hg hu pins s σ H [x] us Q I r ⟨x, d, rfl, hd, hs, hn, hi, hdep, hsz, q⟩
  | false =>
    obtain ⟨u, rfl, ru⟩ := vals1 r
    cases hd with
    | non =>
      obtain rfl : u = Value.none := ru
      exact PySem.P.repr_of_none ⟨.str _, H, I.tok _, ⟨_, rfl⟩, q⟩
    | bl b =>
      obtain rfl : u = Value.bool b := ru
      exact PySem.P.repr_of_bool ⟨.str _, H, I.tok _, ⟨_, rfl⟩, q⟩
    | int i =>
      obtain ⟨t, rfl⟩ := ru
      exact PySem.P.repr_of_int (of_decide_eq_true hs) ⟨.str _, H, I.tok _, ⟨_, rfl⟩, q⟩
    | str x =>
      obtain ⟨t, rfl⟩ := ru
      exact PySem.P.repr_of_str ⟨.str _, H, I.tok _, ⟨_, rfl⟩, q⟩ hsz
    | lst _ _ => cases hi
    | tup _ _ => cases hi
end
end L2

set_option Elab.async false
set_option linter.all false
set_option maxRecDepth 100000
set_option maxHeartbeats 4000000
/-! data in the heap, with the places that it stands at -/
namespace DL
open PySem L2
mutual
/-- v is the data d, at the places as -/
def Own (H : Hp) : PyData → V → List Addr → Prop
  | .none, v, as => v = .non ∧ as = []
  | .bool b, v, as => v = .bl b ∧ as = []
  | .int i, v, as => v = .int i ∧ as = []
  | .str x, v, as => v = .str x ∧ as = []
  | .list ds, v, as => ∃ a xs bs, v = .ref a ∧ H a = some (.lst xs) ∧ OwnAll H ds xs bs ∧ as = a :: bs
  | .tuple ds, v, as => ∃ a xs bs, v = .ref a ∧ H a = some (.tup xs) ∧ OwnAll H ds xs bs ∧ as = a :: bs
  | .dict _, _, _ => False
def OwnAll (H : Hp) : List PyData → List V → List Addr → Prop
  | [], xs, as => xs = [] ∧ as = []
  | d :: ds, xs, as => ∃ v vs bs cs, xs = v :: vs ∧ Own H d v bs ∧ OwnAll H ds vs cs ∧ as = bs ++ cs
end
mutual
theorem Own.has {H : Hp} : ∀ {d : PyData} {v : V} {as : List Addr}, Own H d v as → ∀ b ∈ as, ∃ o, H b = some o
  | .none, _, _, ⟨_, h⟩, b, hb => by rw [h] at hb; cases hb
  | .bool _, _, _, ⟨_, h⟩, b, hb => by rw [h] at hb; cases hb
  | .int _, _, _, ⟨_, h⟩, b, hb => by rw [h] at hb; cases hb
  | .str _, _, _, ⟨_, h⟩, b, hb => by rw [h] at hb; cases hb
  | .list ds, _, _, ⟨a, xs, bs, _, ha, hr, e⟩, b, hb => by
    rw [e] at hb
    rcases List.mem_cons.mp hb with z | z
    · exact ⟨_, by rw [z]; exact ha⟩
    · exact OwnAll.has hr b z
  | .tuple ds, _, _, ⟨a, xs, bs, _, ha, hr, e⟩, b, hb => by
    rw [e] at hb
    rcases List.mem_cons.mp hb with z | z
    · exact ⟨_, by rw [z]; exact ha⟩
    · exact OwnAll.has hr b z
  | .dict _, _, _, h, _, _ => h.elim
theorem OwnAll.has {H : Hp} : ∀ {ds : List PyData} {vs : List V} {as : List Addr}, OwnAll H ds vs as → ∀ b ∈ as, ∃ o, H b = some o
  | [], _, _, ⟨_, h⟩, b, hb => by rw [h] at hb; cases hb
  | d :: ds, _, _, ⟨v, vs, bs, cs, _, h1, h2, e⟩, b, hb => by
    rw [e] at hb
    rcases List.mem_append.mp hb with z | z
    · exact Own.has h1 b z
    · exact OwnAll.has h2 b z
end
mutual
theorem Own.frame {H H' : Hp} : ∀ {d : PyData} {v : V} {as : List Addr}, Own H d v as → (∀ b ∈ as, ∀ o, H b = some o → H' b = some o) → Own H' d v as
  | .none, _, _, h, _ => h
  | .bool _, _, _, h, _ => h
  | .int _, _, _, h, _ => h
  | .str _, _, _, h, _ => h
  | .list ds, _, _, ⟨a, xs, bs, hv, ha, hr, e⟩, k => ⟨a, xs, bs, hv, k a (by rw [e]; exact List.mem_cons_self) _ ha, OwnAll.frame hr fun b hb => k b (by rw [e]; exact List.mem_cons_of_mem _ hb), e⟩
  | .tuple ds, _, _, ⟨a, xs, bs, hv, ha, hr, e⟩, k => ⟨a, xs, bs, hv, k a (by rw [e]; exact List.mem_cons_self) _ ha, OwnAll.frame hr fun b hb => k b (by rw [e]; exact List.mem_cons_of_mem _ hb), e⟩
  | .dict _, _, _, h, _ => h.elim
theorem OwnAll.frame {H H' : Hp} : ∀ {ds : List PyData} {vs : List V} {as : List Addr}, OwnAll H ds vs as → (∀ b ∈ as, ∀ o, H b = some o → H' b = some o) → OwnAll H' ds vs as
  | [], _, _, h, _ => h
  | d :: ds, _, _, ⟨v, vs, bs, cs, hx, h1, h2, e⟩, k => ⟨v, vs, bs, cs, hx, Own.frame h1 fun b hb => k b (by rw [e]; exact List.mem_append_left _ hb), OwnAll.frame h2 fun b hb => k b (by rw [e]; exact List.mem_append_right _ hb), e⟩
end
mutual
theorem Own.dp {K : PySem.W.Frag} {H : Hp} : ∀ {d : PyData} {v : V} {as : List Addr}, Own H d v as → Dp K H v d
  | .none, _, _, ⟨h, _⟩ => by rw [h]; exact .non
  | .bool _, _, _, ⟨h, _⟩ => by rw [h]; exact .bl _
  | .int _, _, _, ⟨h, _⟩ => by rw [h]; exact .int _
  | .str _, _, _, ⟨h, _⟩ => by rw [h]; exact .str _
  | .list ds, _, _, ⟨a, xs, bs, hv, ha, hr, e⟩ => by rw [hv]; exact .lst (SqL.of ha) (OwnAll.dp hr)
  | .tuple ds, _, _, ⟨a, xs, bs, hv, ha, hr, e⟩ => by rw [hv]; exact .tup (SqT.of ha) (OwnAll.dp hr)
  | .dict _, _, _, h => h.elim
theorem OwnAll.dp {K : PySem.W.Frag} {H : Hp} : ∀ {ds : List PyData} {vs : List V} {as : List Addr}, OwnAll H ds vs as → DpAll K H vs ds
  | [], _, _, ⟨h, _⟩ => by rw [h]; exact .nil
  | d :: ds, _, _, ⟨v, vs, bs, cs, hx, h1, h2, e⟩ => by rw [hx]; exact .cons (Own.dp h1) (OwnAll.dp h2)
end
theorem OwnAll.len {H : Hp} : ∀ {ds : List PyData} {vs : List V} {as : List Addr}, OwnAll H ds vs as → vs.length = ds.length
  | [], _, _, ⟨h, _⟩ => by rw [h] <;> rfl
  | d :: ds, _, _, ⟨v, vs, bs, cs, hx, h1, h2, e⟩ => by
    rw [hx, List.length_cons, List.length_cons, OwnAll.len h2]
/-- one more at the end -/
theorem OwnAll.snoc {H : Hp} : ∀ {ds : List PyData} {vs : List V} {as : List Addr} {d : PyData} {v : V} {bs : List Addr}, OwnAll H ds vs as → Own H d v bs → OwnAll H (ds ++ [d]) (vs ++ [v]) (as ++ bs)
  | [], _, _, d, v, bs, ⟨h1, h2⟩, h => by
    rw [h1, h2]
    exact ⟨v, [], bs, [], rfl, h, ⟨rfl, rfl⟩, by simp⟩
  | e :: ds, _, _, d, v, bs, ⟨w, vs, b1, b2, hx, h1, h2, e2⟩, h => by
    rw [hx, e2]
    exact ⟨w, vs ++ [v], b1, b2 ++ bs, rfl, h1, OwnAll.snoc h2 h, by rw [List.append_assoc]⟩
/-- the item at a place -/
theorem OwnAll.at {H : Hp} : ∀ {ds : List PyData} {vs : List V} {as : List Addr} {i : Nat} {v : V}, OwnAll H ds vs as → vs[i]? = some v → ∃ d bs, ds[i]? = some d ∧ Own H d v bs ∧ ∀ b ∈ bs, b ∈ as
  | [], _, _, i, v, ⟨h, _⟩, e => by rw [h] at e; simp at e
  | d :: ds, _, _, 0, v, ⟨w, vs, b1, b2, hx, h1, h2, e2⟩, e => by
    rw [hx] at e
    cases (Option.some.inj e : w = v)
    exact ⟨d, b1, rfl, h1, fun b hb => by rw [e2]; exact List.mem_append_left _ hb⟩
  | d :: ds, _, _, i + 1, v, ⟨w, vs, b1, b2, hx, h1, h2, e2⟩, e => by
    rw [hx] at e
    obtain ⟨d', bs, z1, z2, z3⟩ := OwnAll.at (i := i) h2 e
    exact ⟨d', bs, z1, z2, fun b hb => by rw [e2]; exact List.mem_append_right _ (z3 b hb)⟩
/-- places that are new -/
def New (H : Hp) (as : List Addr) : Prop := ∀ b ∈ as, H b = none
theorem New.old {H H' : Hp} {as : List Addr} (n : New H' as) (k : ∀ b, H' b = none → H b = none) : New H as := fun b hb => k b (n b hb)
theorem Own.same {H H' : Hp} {d : PyData} {v : V} {as : List Addr} (h : Own H d v as) (k : Same H H') : Own H' d v as := h.frame fun b _ o e => k b o e
theorem OwnAll.same {H H' : Hp} {ds : List PyData} {vs : List V} {as : List Addr} (h : OwnAll H ds vs as) (k : Same H H') : OwnAll H' ds vs as := h.frame fun b _ o e => k b o e
/-- a place that is new is none of the data's -/
theorem Own.not {H : Hp} {d : PyData} {v : V} {as : List Addr} {p : Addr} (h : Own H d v as) (hp : H p = none) : p ∉ as := fun e => by
  obtain ⟨o, z⟩ := h.has p e
  rw [hp] at z
  cases z
theorem OwnAll.not {H : Hp} {ds : List PyData} {vs : List V} {as : List Addr} {p : Addr} (h : OwnAll H ds vs as) (hp : H p = none) : p ∉ as := fun e => by
  obtain ⟨o, z⟩ := h.has p e
  rw [hp] at z
  cases z
/-- an object written that is none of the data's -/
theorem Own.put {H : Hp} {d : PyData} {v : V} {as : List Addr} {p : Addr} {o : HO} (h : Own H d v as) (hp : p ∉ as) : Own (upd H p o) d v as := h.frame fun b hb u e => (upd_ne fun z => hp (by rw [← z]; exact hb)).trans e
theorem OwnAll.put {H : Hp} {ds : List PyData} {vs : List V} {as : List Addr} {p : Addr} {o : HO} (h : OwnAll H ds vs as) (hp : p ∉ as) : OwnAll (upd H p o) ds vs as := h.frame fun b hb u e => (upd_ne fun z => hp (by rw [← z]; exact hb)).trans e
theorem same_new {H : Hp} {p : Addr} {o : HO} (hp : H p = none) : Same H (upd H p o) := fun b u e => by
  rw [upd_ne (ne_of_none e hp)]
  exact e
/-! ### sizes -/
mutual
def nodes : PyData → Nat
  | .none | .bool _ | .int _ | .str _ => 1
  | .list ds | .tuple ds => nodesAll ds + 1
  | .dict _ => 1
def nodesAll : List PyData → Nat
  | [] => 0
  | d :: ds => nodes d + nodesAll ds
end
theorem nodes_pos (d : PyData) : 1 ≤ nodes d := by
  cases d <;> simp [nodes]
theorem len_nodes : ∀ ds : List PyData, ds.length ≤ nodesAll ds
  | [] => Nat.le_refl _
  | d :: ds => by
    have h1 := len_nodes ds
    have h2 := nodes_pos d
    simp only [nodesAll, List.length_cons]
    omega
theorem nodes_at : ∀ {ds : List PyData} {i : Nat} {d : PyData}, ds[i]? = some d → nodes d ≤ nodesAll ds
  | [], i, d, h => by simp at h
  | e :: ds, 0, d, h => by
    cases (Option.some.inj h : e = d)
    simp only [nodesAll]
    omega
  | e :: ds, i + 1, d, h => by
    have q := nodes_at (ds := ds) (i := i) (d := d) h
    simp only [nodesAll]
    omega
theorem depth_at : ∀ {ds : List PyData} {i : Nat} {d : PyData}, ds[i]? = some d → d.depth ≤ PyData.depthAll ds
  | [], i, d, h => by simp at h
  | e :: ds, 0, d, h => by
    cases (Option.some.inj h : e = d)
    simp only [PyData.depthAll]
    omega
  | e :: ds, i + 1, d, h => by
    have q := depth_at (ds := ds) (i := i) (d := d) h
    simp only [PyData.depthAll]
    omega
theorem nodesAll_append : ∀ ds es : List PyData, nodesAll (ds ++ es) = nodesAll ds + nodesAll es
  | [], es => by simp [nodesAll]
  | d :: ds, es => by
    rw [List.cons_append]
    simp only [nodesAll]
    rw [nodesAll_append ds es]
    omega
theorem depthAll_append : ∀ ds es : List PyData, PyData.depthAll (ds ++ es) = max (PyData.depthAll ds) (PyData.depthAll es)
  | [], es => by simp [PyData.depthAll]
  | d :: ds, es => by
    rw [List.cons_append]
    simp only [PyData.depthAll]
    rw [depthAll_append ds es]
    omega
theorem take_more {α : Type} {l : List α} {i : Nat} {x : α} (h : l[i]? = some x) : l.take (i + 1) = l.take i ++ [x] := by
  rw [List.take_add_one, h]
  rfl
/-! ### numbers put at the end of each list within -/
mutual
def grow : PyData → Int → PyData × Int
  | .list ds, k => (.list ((growAll ds k).1 ++ [.int (growAll ds k).2]), (growAll ds k).2 + 1)
  | .tuple ds, k => (.tuple (growAll ds k).1, (growAll ds k).2)
  | .none, k => (.none, k)
  | .bool b, k => (.bool b, k)
  | .int i, k => (.int i, k)
  | .str x, k => (.str x, k)
  | .dict m, k => (.dict m, k)
def growAll : List PyData → Int → List PyData × Int
  | [], k => ([], k)
  | d :: ds, k => ((grow d k).1 :: (growAll ds (grow d k).2).1, (growAll ds (grow d k).2).2)
end
theorem growAll_snoc : ∀ (ds : List PyData) (d : PyData) (k : Int), growAll (ds ++ [d]) k = ((growAll ds k).1 ++ [(grow d (growAll ds k).2).1], (grow d (growAll ds k).2).2)
  | [], d, k => by simp [growAll]
  | e :: ds, d, k => by
    rw [List.cons_append]
    simp only [growAll]
    rw [growAll_snoc ds d]
    rfl
theorem grow_flat {d : PyData} (h : d.depth = 0) (k : Int) : grow d k = (d, k) := by
  cases d with
  | list ds => simp only [PyData.depth] at h; omega
  | tuple ds => simp only [PyData.depth] at h; omega
  | dict ds => simp only [PyData.depth] at h; omega
  | _ => simp [grow]
/-! ### data that can be shown -/
mutual
def Fit : PyData → Prop
  | .none | .bool _ => True
  | .int i => i.natAbs < 10 ^ 38
  | .str x => (reprText x).length ≤ 90
  | .list ds | .tuple ds => FitAll ds
  | .dict _ => False
def FitAll : List PyData → Prop
  | [] => True
  | d :: ds => Fit d ∧ FitAll ds
end
theorem fitAll_iff : ∀ {ds : List PyData}, FitAll ds ↔ ∀ d ∈ ds, Fit d
  | [] => by simp [FitAll]
  | d :: ds => by simp [FitAll, fitAll_iff (ds := ds)]
theorem fitAll_append {ds es : List PyData} : FitAll (ds ++ es) ↔ FitAll ds ∧ FitAll es := by
  rw [fitAll_iff, fitAll_iff, fitAll_iff]
  constructor
  · exact fun h => ⟨fun d hd => h d (List.mem_append_left _ hd), fun d hd => h d (List.mem_append_right _ hd)⟩
  · intro h d hd
    rcases List.mem_append.mp hd with z | z
    · exact h.1 d z
    · exact h.2 d z
theorem int_shown {i : Int} (h : i.natAbs < 10 ^ 38) : (PyData.int i).shown.length ≤ 45 ∧ (PyData.int i).showable = true := by
  have hl : i.natAbs.log2 < 1920 := Nat.lt_of_lt_of_le (PySem.Flt.log2_lt_of (k := 200) (by decide) (Nat.lt_of_lt_of_le h (by decide))) (by decide)
  refine ⟨?_, decide_eq_true hl⟩
  have q := int_text_length_le10 (a := i) (k := 38) (by decide) h
  show (Str.ofString (toString i)).length ≤ 45
  have e : (Str.ofString (toString i)).length = (toString i).length := PySem.ofString_length _
  omega
mutual
theorem fit_shown : ∀ {d : PyData}, Fit d → d.shown.length + 5 ≤ 100 * nodes d ∧ d.showable = true ∧ d.hasDict = false
  | .none, _ => ⟨by show (Str.ofString "None").length + 5 ≤ 100; decide, rfl, rfl⟩
  | .bool b, _ => ⟨by cases b <;> decide, rfl, rfl⟩
  | .int i, h => ⟨by have q := (int_shown h).1; show _ + 5 ≤ 100 * 1; omega, (int_shown h).2, rfl⟩
  | .str x, h => ⟨by show (reprText x).length + 5 ≤ 100 * 1; have q : (reprText x).length ≤ 90 := h; omega, rfl, rfl⟩
  | .list ds, h => by
    obtain ⟨h1, h2, h3, h4⟩ := fitAll_shown (ds := ds) h
    refine ⟨?_, by simpa [PyData.showable] using h2, by simpa [PyData.hasDict] using h3⟩
    have q := listText_len_le (PyData.shownAll ds)
    simp only [PyData.shown, nodes]
    omega
  | .tuple ds, h => by
    obtain ⟨h1, h2, h3, h4⟩ := fitAll_shown (ds := ds) h
    refine ⟨?_, by simpa [PyData.showable] using h2, by simpa [PyData.hasDict] using h3⟩
    have q := tupleText_len_le (PyData.shownAll ds)
    simp only [PyData.shown, nodes]
    omega
  | .dict _, h => h.elim
theorem fitAll_shown : ∀ {ds : List PyData}, FitAll ds → ((PyData.shownAll ds).map (·.length)).sum + 5 * ds.length ≤ 100 * nodesAll ds ∧ PyData.showableAll ds = true ∧ PyData.hasDictAll ds = false ∧ (PyData.shownAll ds).length = ds.length
  | [], _ => ⟨Nat.le_refl _, rfl, rfl, rfl⟩
  | d :: ds, h => by
    obtain ⟨a1, a2, a3⟩ := fit_shown (d := d) h.1
    obtain ⟨b1, b2, b3, b4⟩ := fitAll_shown (ds := ds) h.2
    refine ⟨?_, by simp [PyData.showableAll, a2, b2], by simp [PyData.hasDictAll, a3, b3], by simp [PyData.shownAll, b4]⟩
    simp only [PyData.shownAll, List.map_cons, List.sum_cons, List.length_cons, nodesAll]
    omega
end
mutual
theorem grow_nodes : ∀ (d : PyData) (k : Int), nodes (grow d k).1 ≤ 2 * nodes d ∧ k ≤ (grow d k).2 ∧ (grow d k).2 ≤ k + nodes d ∧ (grow d k).1.depth ≤ d.depth ∧ (0 ≤ k → k + nodes d < 10 ^ 30 → Fit d → Fit (grow d k).1)
  | .list ds, k => by
    obtain ⟨h1, h2, h3, h4, h5⟩ := growAll_nodes ds k
    refine ⟨?_, ?_, ?_, ?_, fun h0 hk hf => ?_⟩
    · simp only [grow, nodes]
      have e : nodesAll ((growAll ds k).1 ++ [.int (growAll ds k).2]) = nodesAll (growAll ds k).1 + 1 := by
        rw [nodesAll_append]
        rfl
      omega
    · simp only [grow]
      omega
    · simp only [grow, nodes]
      omega
    · simp only [grow, PyData.depth, depthAll_append, PyData.depthAll]
      omega
    · simp only [grow, Fit]
      rw [fitAll_append]
      simp only [nodes] at hk
      refine ⟨h5 h0 (by omega) hf, ?_, trivial⟩
      show (growAll ds k).2.natAbs < 10 ^ 38
      omega
  | .tuple ds, k => by
    obtain ⟨h1, h2, h3, h4, h5⟩ := growAll_nodes ds k
    refine ⟨?_, ?_, ?_, ?_, fun h0 hk hf => ?_⟩
    · simp only [grow, nodes]
      omega
    · simp only [grow]
      omega
    · simp only [grow, nodes]
      omega
    · simp only [grow, PyData.depth]
      omega
    · simp only [grow, Fit]
      simp only [nodes] at hk
      exact h5 h0 (by omega) hf
  | .none, k => ⟨by simp [grow, nodes], by simp [grow], by simp only [grow, nodes]; omega, by simp [grow], fun _ _ h => by simpa [grow] using h⟩
  | .bool b, k => ⟨by simp [grow, nodes], by simp [grow], by simp only [grow, nodes]; omega, by simp [grow], fun _ _ h => by simpa [grow] using h⟩
  | .int i, k => ⟨by simp [grow, nodes], by simp [grow], by simp only [grow, nodes]; omega, by simp [grow], fun _ _ h => by simpa [grow] using h⟩
  | .str x, k => ⟨by simp [grow, nodes], by simp [grow], by simp only [grow, nodes]; omega, by simp [grow], fun _ _ h => by simpa [grow] using h⟩
  | .dict m, k => ⟨by simp [grow, nodes], by simp [grow], by simp only [grow, nodes]; omega, by simp [grow], fun _ _ h => h.elim⟩
theorem growAll_nodes : ∀ (ds : List PyData) (k : Int), nodesAll (growAll ds k).1 ≤ 2 * nodesAll ds ∧ k ≤ (growAll ds k).2 ∧ (growAll ds k).2 ≤ k + nodesAll ds ∧ PyData.depthAll (growAll ds k).1 ≤ PyData.depthAll ds ∧ (0 ≤ k → k + nodesAll ds < 10 ^ 30 → FitAll ds → FitAll (growAll ds k).1)
  | [], k => ⟨by simp [growAll, nodesAll], by simp [growAll], by simp [growAll, nodesAll], by simp [growAll], fun _ _ _ => by simp [growAll, FitAll]⟩
  | d :: ds, k => by
    obtain ⟨a1, a2, a3, a4, a5⟩ := grow_nodes d k
    obtain ⟨b1, b2, b3, b4, b5⟩ := growAll_nodes ds (grow d k).2
    refine ⟨?_, ?_, ?_, ?_, fun h0 hk hf => ?_⟩
    · simp only [growAll, nodesAll]
      omega
    · simp only [growAll]
      omega
    · simp only [growAll, nodesAll]
      omega
    · simp only [growAll, PyData.depthAll]
      omega
    · simp only [nodesAll] at hk
      simp only [growAll, FitAll]
      exact ⟨a5 h0 (by omega) hf.1, b5 (by omega) (by omega) hf.2⟩
end
/-- a list that is being filled with new data, at D: ds are in it, their values vs, at the places cs; H is the heap ahead of it -/
structure Filling (H H' : Hp) (D : Addr) (ds : List PyData) (vs : List V) (cs : List Addr) : Prop where
  at_ : H' D = some (.lst vs)
  own : OwnAll H' ds vs cs
  same : Same H H'
  new : New H cs
  out : D ∉ cs
  nd : cs.Nodup
theorem Filling.start {H : Hp} {D : Addr} (hD : H D = none) : Filling H (upd H D (.lst [])) D [] [] [] :=
  ⟨upd_same, ⟨rfl, rfl⟩, same_new hD, (fun _ z => nomatch z), (fun z => nomatch z), List.nodup_nil⟩
theorem Filling.more {H H' H2 : Hp} {D : Addr} {ds : List PyData} {vs : List V} {cs bs : List Addr} {d : PyData} {v : V} (F : Filling H H' D ds vs cs) (hD : H D = none) (sm : Same H' H2) (ow : Own H2 d v bs) (nw : New H' bs) (nd : bs.Nodup) :
    Filling H (upd H2 D (.lst (vs ++ [v]))) D (ds ++ [d]) (vs ++ [v]) (cs ++ bs) := by
  have out2 : D ∉ bs := fun z => by
    have e := nw D z
    rw [F.at_] at e
    cases e
  have o1 : OwnAll H2 ds vs cs := F.own.same sm
  refine ⟨upd_same, (o1.put F.out).snoc (ow.put out2), fun b o e => ?_, fun b hb => ?_, fun z => ?_, List.nodup_append.mpr ⟨F.nd, nd, fun a ha b hb e => ?_⟩⟩
  · rw [upd_ne (ne_of_none e hD)]
    exact sm _ _ (F.same _ _ e)
  · rcases List.mem_append.mp hb with z | z
    · exact F.new b z
    · exact F.same.free (nw b z)
  · rcases List.mem_append.mp z with z | z
    · exact F.out z
    · exact out2 z
  · subst e
    obtain ⟨o, z⟩ := F.own.has a ha
    rw [nw a hb] at z
    cases z
/-- it is done: a list -/
theorem Filling.list {H H' : Hp} {D : Addr} {ds : List PyData} {vs : List V} {cs : List Addr} (F : Filling H H' D ds vs cs) (hD : H D = none) : Own H' (.list ds) (.ref D) (D :: cs) ∧ New H (D :: cs) ∧ (D :: cs).Nodup :=
  ⟨⟨D, vs, cs, rfl, F.at_, F.own, rfl⟩, fun b hb => by
    rcases List.mem_cons.mp hb with z | z
    · rw [z]
      exact hD
    · exact F.new b z, List.nodup_cons.mpr ⟨F.out, F.nd⟩⟩
/-- a tuple of what it holds -/
theorem Filling.tuple {H H' : Hp} {D p : Addr} {ds : List PyData} {vs : List V} {cs : List Addr} (F : Filling H H' D ds vs cs) (hp : H' p = none) : Own (upd H' p (.tup vs)) (.tuple ds) (.ref p) (p :: cs) ∧ New H (p :: cs) ∧ (p :: cs).Nodup ∧ Same H (upd H' p (.tup vs)) :=
  ⟨⟨p, vs, cs, rfl, upd_same, F.own.same (same_new hp), rfl⟩, fun b hb => by
    rcases List.mem_cons.mp hb with z | z
    · rw [z]
      exact F.same.free hp
    · exact F.new b z, List.nodup_cons.mpr ⟨F.own.not hp, F.nd⟩, F.same.trans (same_new hp)⟩
end DL

set_option Elab.async false
set_option linter.all false
set_option maxRecDepth 100000
set_option maxHeartbeats 4000000
/-! comprehensions with two for, over lists that stand still -/
namespace LG
open PySem L2
/-- the inner for: over a list -/
theorem inner_list {K : PySem.W.Frag} {a : Addr} {ys : List V} {g1 : TG} {tt1 : TT} {te : TE} {vs1 : List Nat} {σ2 : St} {H4 : Hp} {D : Addr} {Nx : Hp → Prop} (Rv : Nat → Hp → Prop) (h0 : Rv 0 H4) (hl : ∀ (j : Nat) (H : Hp), j ≤ ys.length → Rv j H → SqL K H a ys)
    (hs : ∀ (j : Nat) (y : V) (H : Hp), ys[j]? = some y → Rv j H → g1 y (wipe σ2 vs1) H fun σ3 H5 => wipe σ3 vs1 = wipe σ2 vs1 ∧ tt1 σ3 H5 fun b H6 => if b = true then te σ3 H6 fun z H7 => ∃ acc, H7 D = some (HO.lst acc) ∧ acc.length < sizeLine ∧ Rv (j + 1) (upd H7 D (HO.lst (acc ++ [z]))) else Rv (j + 1) H6)
    (hd : ∀ H : Hp, Rv ys.length H → Nx H) :
    ∃ W1 : Nat → Nat → Hp → Prop, (∃ m, W1 0 m H4) ∧ ∀ (j k : Nat) (H : Hp), W1 j k H → (Itl K a).stop j H ∧ Nx H ∨ (Itl K a).go j H ∧ ∃ Nx1 : Hp → Prop, (∀ H' : Hp, Nx1 H' → ∃ k', k' < k ∧ W1 (j + 1) k' H') ∧
      ∀ (x : V) (H' : Hp), (Itl K a).yld j H x H' → g1 x (wipe σ2 vs1) H' fun σ3 H5 => wipe σ3 vs1 = wipe σ2 vs1 ∧ tt1 σ3 H5 fun b H6 => if b = true then te σ3 H6 fun y H7 => ∃ acc, H7 D = some (HO.lst acc) ∧ acc.length < sizeLine ∧ Nx1 (upd H7 D (HO.lst (acc ++ [y]))) else Nx1 H6 := by
  refine ⟨fun j k H => k + j = ys.length ∧ Rv j H, ⟨ys.length, rfl, h0⟩, fun j k H ⟨e, p⟩ => ?_⟩
  have hsq := hl j H (by omega) p
  cases hx : ys[j]? with
  | none =>
    have hj : ys.length ≤ j := List.getElem?_eq_none_iff.mp hx
    have ej : j = ys.length := by omega
    exact .inl ⟨⟨ys, hsq, hj⟩, hd H (ej ▸ p)⟩
  | some y =>
    have hj : j < ys.length := (List.getElem?_eq_some_iff.mp hx).1
    refine .inr ⟨⟨ys, y, hsq, hx⟩, Rv (j + 1), fun H' q => ⟨k - 1, by omega, by omega, q⟩, ?_⟩
    rintro x H' ⟨rfl, hy⟩
    have e2 := hy ys hsq
    rw [hx] at e2
    cases e2
    exact hs j _ _ hx p
/-- the outer for: over a list -/
theorem outer_list {K : PySem.W.Frag} {a : Addr} {xs : List V} {H1 : Hp} {D : Addr} {Qd : Hp → Prop} {B : (Hp → Prop) → V → Hp → Prop} (Pv : Nat → Hp → Prop) (h0 : Pv 0 (upd H1 D (HO.lst []))) (hl : ∀ (i : Nat) (H : Hp), i ≤ xs.length → Pv i H → SqL K H a xs)
    (hs : ∀ (i : Nat) (x : V) (H : Hp), xs[i]? = some x → Pv i H → B (Pv (i + 1)) x H) (hd : ∀ H : Hp, Pv xs.length H → Qd H) :
    ∃ W : Nat → Nat → Hp → Prop, (∃ m, W 0 m (upd H1 D (HO.lst []))) ∧ ∀ (i m : Nat) (H : Hp), W i m H → (Itl K a).stop i H ∧ Qd H ∨ (Itl K a).go i H ∧ ∃ Nx : Hp → Prop, (∀ H' : Hp, Nx H' → ∃ m', m' < m ∧ W (i + 1) m' H') ∧
      ∀ (x : V) (H' : Hp), (Itl K a).yld i H x H' → B Nx x H' := by
  refine ⟨fun i m H => m + i = xs.length ∧ Pv i H, ⟨xs.length, rfl, h0⟩, fun i m H ⟨e, p⟩ => ?_⟩
  have hsq := hl i H (by omega) p
  cases hx : xs[i]? with
  | none =>
    have hi : xs.length ≤ i := List.getElem?_eq_none_iff.mp hx
    have ei : i = xs.length := by omega
    exact .inl ⟨⟨xs, hsq, hi⟩, hd H (ei ▸ p)⟩
  | some y =>
    have hi : i < xs.length := (List.getElem?_eq_some_iff.mp hx).1
    refine .inr ⟨⟨xs, y, hsq, hx⟩, Pv (i + 1), fun H' q => ⟨m - 1, by omega, by omega, q⟩, ?_⟩
    rintro x H' ⟨rfl, hy⟩
    have e2 := hy xs hsq
    rw [hx] at e2
    cases e2
    exact hs i _ _ hx p
end LG

set_option Elab.async false
set_option linter.all false
set_option maxRecDepth 100000
set_option maxHeartbeats 8000000
/-! set(l), l a list of ints, as a set that is walked and sorted -/
namespace PySem
namespace HouseX
open PySem.W PySem.Calls PyProof.Rows PySem.HandSPX L2
def bareSet (w : World) : Obj := { cls := .type "set", dict := none, data := .set #[] 0 (.fresh 0 0 (!w.params.followText "set-order")) }
section
variable {P : Program} {w : World} {A : Around} {E : Value → Shared → Prop} {s : Shared}
theorem set_of_list {l : Addr} {items : Array Value} (ns : List Int) {Q : Value → Shared → Prop} (calm : A.handled = none) (hl : s.heap.IsList l items) (hit : IntsAre items.toList ns) (few : ns.length + 1 < scanBound)
    (h : ∀ (h' : Heap) (tk c : Nat), SetR w h' s.heap.objs.size (fun j => decide (j ∈ ns)) c → c ≤ ns.length → (∀ b o, s.heap.get? b = some o → h'.get? b = some o) → Q (.ref s.heap.objs.size) { s with heap := h', toks := tk }) :
    wpAny (model P w) A (call (.type "set") [.ref l]) Q E s := by
  have many : items.size = ns.length := by
    have z := IntsAre.length hit
    rwa [Array.length_toList] at z
  obtain ⟨c, tl, mro⟩ := F.called_set.mro
  have made := F.called_set.made
  have below := F.called_set.sub
  refine wpAny_call (codeAny_of_tree ?_)
  show wpAny _ _ (callAny (.type "set") _) _ _ _
  refine wpAny_pure ⟨Code.quiet_builtin _ (by decide +kernel), codeAny_builtin F.entry_type_call ?_⟩
  rw [Around.under_plain (weight_type_call_type "set" [.ref l] []) rfl]
  have noType := F.called_set.notType
  have create := F.called_set.canCreate
  have looks := F.typeCall_set_1 (.ref l)
  repeat (any_goals (first | assumption | wp_step))
  refine codeAny_mono (L2.code_set_led1 (.ref l) (E := E) (Q₁ := fun obj s₁ => obj = .ref s.heap.objs.size ∧ s₁ = { s with heap := s.heap.push (bareSet w) }) ⟨rfl, rfl⟩) fun r s₁ hr => ?_
  cases r with
  | error e => exact hr
  | ok fl =>
    cases fl with
    | next => exact hr.elim
    | brk => exact hr.elim
    | cont => exact hr.elim
    | ret obj =>
      obtain ⟨rfl, rfl⟩ := hr
      have atS : (s.heap.push (bareSet w)).get? s.heap.objs.size = some (bareSet w) := Heap.get?_push_size _ rfl
      have isS : Shared.TypeIs { s with heap := s.heap.push (bareSet w) } (.ref s.heap.objs.size) "set" := ⟨_, atS, rfl⟩
      have initL := F.called_set.init.lookup
      have initB := F.called_set.init.bind (.ref s.heap.objs.size)
      repeat (any_goals (first | assumption | wp_step))
      refine codeAny_mono (codeAny_call_builtin (R := wants (fun r s₂ => r = .none ∧ ∃ h' tk c, s₂ = { s with heap := h', toks := tk } ∧ SetR w h' s.heap.objs.size (fun j => decide (j ∈ ns)) c ∧ c ≤ ns.length ∧
          (∀ b o, s.heap.get? b = some o → h'.get? b = some o)) E) F.called_set.init.plain F.entry_set_init (check_set_init_1 isS ?_)) fun r₂ s₂ hr₂ => ?_
      · obtain ⟨ol, hol, hcl, nl, hdl⟩ := hl
        obtain ⟨ocls, odict, odata, oslots⟩ := ol
        simp only at hcl hdl
        subst hcl hdl
        have hol' : (s.heap.push (bareSet w)).get? l = some { cls := .type "list", dict := odict, data := .seq items nl, slots := oslots } := Heap.get?_push_of_some _ hol
        have noSet := F.sub_list_set
        have noFrozen := F.sub_list_frozenset
        have noDict : (Value.type "list" == Value.type "dict") = false := by decide
        have isL : (s.heap.push (bareSet w)).IsList l items := ⟨_, hol', rfl, nl, rfl⟩
        unfold Builtin.«set.__init__» noKeywords Builtin.Frozenset.updateFrom
        generalize hPI : pyIter = PI
        wp_walk
        subst hPI
        refine wpAny_pyIter_list isL ?_
        refine wpAny_bind (wpAny_runValue ?_)
        have before : l < s.heap.objs.size := Heap.lt_size hol
        have calm3 : A.in1.in1.in1.handled = none := by simp [calm]
        have apart : l ≠ (s.heap.push (bareSet w)).objs.size := by
          rw [Heap.size_push]
          exact Nat.ne_of_lt (Nat.lt_succ_of_lt before)
        have notIn : s.heap.objs.size ∉ [(s.heap.push (bareSet w)).objs.size, l] := by
          rw [Heap.size_push]
          simp only [List.mem_cons, List.mem_singleton, List.not_mem_nil, or_false, not_or]
          exact ⟨Nat.ne_of_lt (Nat.lt_succ_self _), Nat.ne_of_gt before⟩
        have item : ∀ (i : Nat) (v : Value), items[i]? = some v → ∃ k t, ns[i]? = some k ∧ v = .int k t := by
          intro i v hv
          have hi : i < ns.length := by
            rw [← many]
            exact (Array.getElem?_eq_some_iff.mp hv).1
          obtain ⟨t, e⟩ := PyProof.Rows.IntsAre.int_at hit i v (by rw [Array.getElem?_toList]; exact hv)
          refine ⟨ns[i], t, List.getElem?_eq_getElem hi, ?_⟩
          rw [e, List.getD_eq_getElem?_getD, List.getElem?_eq_getElem hi] <;> rfl
        refine L2.set_update_ints ((Walks.list calm3 _ l apart items).toS) s.heap.objs.size notIn ns many few item (items.size - 0) 0 _ (by omega) (Nat.zero_le _)
          ⟨⟨_, Heap.get?_push_size _ rfl, rfl, rfl⟩, (isL.push _)⟩ ?first ?last
        case first =>
          exact ⟨0, Nat.le_refl 0, L2.setR_new_at (Heap.get?_push_of_some _ atS)⟩
        case last =>
          intro s' c' moved small set'
          obtain ⟨h', g2, d', tk', os'⟩ := s'
          obtain rfl : g2 = s.gens := moved.gens
          obtain rfl : d' = s.drawn := moved.drawn
          obtain rfl : os' = s.os := moved.os
          show wpAny _ _ _ _ _ _
          refine wpAny_pure ?_
          show wpAny _ _ (ret Value.none) _ _ _
          rw [many] at small
          refine wpAny_pure ⟨rfl, h', tk', c', rfl, set', small, fun b o e => ?_⟩
          have old : b < s.heap.objs.size := Heap.lt_size e
          have ne1 : b ≠ s.heap.objs.size := Nat.ne_of_lt old
          have ne2 : b ≠ (s.heap.push (bareSet w)).objs.size := by
            rw [Heap.size_push]
            exact Nat.ne_of_lt (Nat.lt_succ_of_lt old)
          refine moved.heap b o ?_ (Heap.get?_push_of_some _ (Heap.get?_push_of_some _ e))
          simp only [List.mem_cons, List.mem_singleton, List.not_mem_nil, or_false, not_or]
          exact ⟨ne1, ne2⟩
      · cases r₂ with
        | error e => exact hr₂
        | ok fl₂ =>
          cases fl₂ with
          | next => exact hr₂.elim
          | brk => exact hr₂.elim
          | cont => exact hr₂.elim
          | ret r =>
            obtain ⟨rfl, h', tk, c', rfl, set', small, keep⟩ := hr₂
            repeat (any_goals (first | assumption | wp_step))
            exact h _ _ _ set' small keep
end
end HouseX
end PySem
namespace L2
open PySem PySem.Spec PyProof.Rows PySem.HouseX
section
variable {X : Cx}
/-- set(l) of a list of ints -/
def rSetOfL (K : PySem.W.Frag) (w : World) : List V → Hp → VK → Prop := fun xs H Q => ∃ (l : Addr) (ns : List Int), xs = [.ref l] ∧ SqL K H l (ns.map V.int) ∧ ns.length ≤ 50 ∧
  ∀ p c, H p = none → c ≤ ns.length → Q (.ref p) (upd H p (SetO w p (fun j => decide (j ∈ ns)) c))
theorem cr_setOfL (hc : X.calm = true) : CallR X (.type "set") (rSetOfL X.K X.w) := by
  intro pins s σ H xs us Q I r h
  obtain ⟨l, ns, rfl, hs, few, q⟩ := h
  cases r with
  | cons rx rr =>
    cases rr
    cases rx
    obtain ⟨its, rv, lt, hlen⟩ := I.list hs
    have hi : IntsAre its.toArray.toList ns := ints_of_vals rv
    obtain ⟨ol, n, ho, hcl, hdn, hdt⟩ := lt
    refine set_of_list ns (I.ok.hd hc) ?_ hi (by unfold scanBound; omega) fun h' tk c R small keep => ?_
    · exact ⟨ol, ho, hcl, n, hdt⟩
    · exact ⟨.ref _, _, I.laid (t' := tk) keep (Nat.le_refl _) (setO_new R), rfl, q _ c (I.hok.fresh (Nat.le_refl _)) small⟩
end
end L2

set_option Elab.async false
set_option linter.all false
set_option maxRecDepth 100000
set_option maxHeartbeats 4000000
namespace L2
open PySem PySem.Spec PyProof.Rows PySem.HouseX
/-! ### raise C(e), C of a family with an inherited __init__ -/
section
variable {X : Cx} {C fI : Addr} {bm : List Value}
theorem raises_err (T : ErrTxt X.K C fI bm) : Raises X (.ref C) := raises_own T.exC T.tyIs
def tMkErr (C : Addr) (ta : TA) : St → Hp → XK → Prop := fun σ H Q => ta σ H fun vs H1 => ∃ v, vs = [v] ∧ ∀ d, H1 d = none → Q (.ref C) (some d) (upd H1 d (.xd [(("value" : Str), v)]))
theorem pmk_err {x : Str} {a : Expr} {ta : TA} {p pos : Pos} {k : Nat} (T : ErrTxt X.K C fI bm) (gC : X.mg x = some (.ref C)) (hr : Room (k + 1) X.A) (ha : PA X [a] ta) (hg : Gl X x)
    (he : starEach (a :: []) X.env = (false, eval a X.env) :: starEach [] X.env := by rfl) (hpl : (backTo pos (starEach [] X.env)).any (·.1) = false := by rfl) (hdb : (x == ("__debug__" : Str)) = false := by decide) :
    PMk X (.Call (.Name x p) [a] [] pos) (tMkErr C ta) := by
  intro pins s σ H Q I h
  refine wpAny_Call_Name_kw (ld_glob I hg gC ?_ hdb)
  refine PySem.W.callWith_K (h₀ := X.base) I.ok.mod.kin T.kC (thn (ha.run pos pins s σ H _ I h) fun us s1 hh => ?_) he hpl
  obtain ⟨vs, H1, I1, r1, v, ev, q1⟩ := hh
  subst ev
  refine ⟨I1.kIn, ?_⟩
  cases r1 with
  | @cons _ v' _ _ rv rn =>
    cases rn
    have hlim := I1.nolimit
    obtain ⟨hp, g, dr, tk, os⟩ := s1
    refine wpAny_call (err_made T .place I1.kIn hlim (by have := hr.dp; omega) fun h' tk' e d M => ?_)
    obtain ⟨oe, fv, hoe, hc, hd, hdat, h1⟩ := M.obj
    have hns := M.ns
    obtain ⟨G', g1, g2⟩ := restrict h' fun b => decide (b ≠ e)
    have gk : ∀ b, b ≠ e → G'.get? b = h'.get? b := fun b hb => g1 b (decide_eq_true hb)
    have ge : G'.get? e = none := g2 e (by simp)
    have old : ∀ b o, hp.get? b = some o → G'.get? b = some o := fun b o q => (gk b (Nat.ne_of_lt (Nat.lt_of_lt_of_le (Heap.lt_size q) M.new))).trans (M.keep b o q)
    have rel : ∀ f : Str, RelO (List.lookup f [(("value" : Str), v)]) (if f = "value" then some v' else none) := fun f => by
      by_cases hw : f = "value"
      · subst hw
        rw [if_pos rfl]
        have q : List.lookup ("value" : Str) [(("value" : Str), v)] = some v := by simp [List.lookup]
        rw [q]
        exact rv
      · rw [if_neg hw]
        have qw : (f == ("value" : Str)) = false := by simpa using hw
        have q2 : List.lookup f [(("value" : Str), v)] = none := by simp [List.lookup, qw]
        rw [q2]
        trivial
    have ob : ObjOk X.prog X.w (upd H1 d (.xd [(("value" : Str), v)])) G' d (.xd [(("value" : Str), v)]) :=
      ⟨_, hns.at (fun o q => (gk d M.dne).trans q), rel⟩
    have J : Inv X pins σ (upd H1 d (.xd [(("value" : Str), v)])) ⟨G', g, dr, tk', os⟩ := I1.laid (t' := tk') old M.dbig ob
    have hne : H1 e = none := I1.hok.fresh M.new
    have hnd : H1 d = none := I1.hok.fresh M.dbig
    have hn : (upd H1 d (.xd [(("value" : Str), v)])) e = none := by
      rw [upd_ne (Ne.symm M.dne)]
      exact hne
    have keep2 : ∀ b u, G'.get? b = some u → h'.get? b = some u := fun b u q => by
      by_cases hb : b = e
      · rw [hb, ge] at q
        cases q
      · exact (gk b hb).symm.trans q
    exact ⟨e, oe, fv, ⟨G', g, dr, tk', os⟩, _, .ref C, some d, rfl, J, keep2, ge, hoe, ⟨hc, hd⟩, hdat, h1, hn, rfl, J.bare, raises_err T, q1 d hnd⟩
end
/-! ### try: body, except x as n: suite, the error standing behind it -/
section
variable {X : Cx} {pins : List (Addr × Obj)} {σ : St} {H : Hp} {s : Shared}
theorem Inv.track {a C d : Addr} {oe : Obj} {vs : Array Value} (I : Inv X pins σ H s) (ha : s.heap.get? a = some oe) (hz : Zc (.ref C) (some d) oe) (hd : oe.data = .fields vs) (na : H a = none)
    (n0 : ∀ b o, X.s_0.heap.get? b = some o → b ≠ a) (nL : a ≠ X.env.locals) (nc : ∀ x c, X.env.cells.lookup x = some c → c ≠ a) (np : ∀ p ∈ X.pn ++ pins, p.1 ≠ a) : Inv X pins σ (upd H a (ErrO C d a)) s := by
  have ne : ∀ {b : Addr} {o : HO}, H b = some o → b ≠ a := fun {b o} e z => by
    rw [z, na] at e
    cases e
  refine ⟨I.ok, I.os, I.bare, ⟨I.base.keep, I.base.slot, fun b o e n hx => ?_, I.base.there, fun b xs e => ?_, fun b o u e => ?_, fun b ps e => ?_⟩, I.loc, I.cell, ?_, fun x c e => ?_, fun p hp => ?_, fun b u e => ?_, I.len⟩
  · rw [upd_ne (n0 b o e)]
    exact I.base.free b o e n hx
  · have q := I.base.tups b xs e
    rw [upd_ne (ne q)]
    exact q
  · have q := I.base.frzs b o u e
    rw [upd_ne (ne q)]
    exact q
  · obtain ⟨m, q⟩ := I.base.tbls b ps e
    exact ⟨m, by rw [upd_ne (ne q)]; exact q⟩
  · rw [upd_ne (Ne.symm nL)]
    exact I.free
  · rw [upd_ne (nc x c e)]
    exact I.freeC x c e
  · obtain ⟨e, n, x1, x2, x3⟩ := I.pin p hp
    exact ⟨e, by rw [upd_ne (np p hp)]; exact n, x1, x2, x3⟩
  · by_cases hb : b = a
    · rw [hb, upd_same] at e
      cases e
      rw [hb]
      exact errO_ok (P := X.prog) (w := X.w) ha hz.1 hz.2 hd
    · rw [upd_ne hb] at e
      refine (I.hok b u e).stay (fun c v _ q => q) (fun c q => ?_) fun c xs q => ?_
      · rw [upd_ne (ne q)]
        exact q
      · rw [upd_ne (ne q)]
        exact q
def wAsT (K : PySem.W.Frag) (c : Value) (i : Nat) (ts : Addr → Value → Option Addr → TS) (Wout : WX) (D : Ends) : WX := fun cls d σ H =>
  ∃ b, PySem.W.exmOne K cls c = some b ∧ (b = true → ∀ a, H a = none → ∃ C dd, cls = .ref C ∧ d = some dd ∧ ts a cls d { nx := fun σ' H' => H' a = none → D.nx (σ'.set i none) (upd H' a (ErrO C dd a)), rt := fun _ _ => False, bk := fun _ _ => False, ct := fun _ _ => False } (σ.set i (some (.ref a))) H) ∧
    (b = false → Wout cls d σ H)
variable {x n : Str} {c : Value} {i : Nat} {body suite : List Stmt} {b₀ : Stmt} {np pos pos' : Pos} {tb : WX → TS} {ts : Addr → Value → Option Addr → TS} {Wout : WX}
theorem ps_try_asT (hs : X.stack = X.env :: X.outer) (hf : X.env.frame = some X.env.locals) (hN : X.N.Nodup) (hi : X.N[i]? = some n) (hln : X.env.kindOf n = some .local) (hc : Names X x c) (tk : Takes X Wout) (hex : X.ex = [])
    (hb : ∀ (W : WX) (pn : List (Addr × Obj)) (xe : Value → Shared → Prop), Takes (X.tr pn xe) W → PassesOwn (model X.prog X.w) X.A X.env xe → PSs (X.tr pn xe) body (tb W))
    (hsu : ∀ (a : Addr) (oe : Obj) (cls : Value) (d : Option Addr) (pn : List (Addr × Obj)), Zc cls d oe → (∃ vs, oe.data = .fields vs) → PSs (X.suite a ((a, oe) :: pn)) (b₀ :: suite) (ts a cls d)) :
    PS X (.Try body [.ExceptHandler (some (.Name x np)) (some n) (b₀ :: suite) pos'] [] [] pos) (fun D σ H => tb (wAsT X.K c i ts Wout D) D σ H) := by
  refine ⟨fun pins s σ H D I h => ?_⟩
  have ok := I.ok
  have hfr : X.A.frames = some (X.env :: X.outer) := by rw [ok.frames, hs]
  have hloc : Loc X.env.scope n := .inl hln
  refine wpAny_Try_except ?_
  refine wpAny_mono ((hb (wAsT X.K c i ts Wout D) (X.pn ++ pins) (fun e s₁ => wpAny (model X.prog X.w) X.A (noteFrame e X.env) (fun _ s₂ => wpAny (model X.prog X.w) X.A (setFlight e none) (fun _ s₃ =>
    wpAny (model X.prog X.w) X.A (handleBy e X.env [.ExceptHandler (some (.Name x np)) (some n) (b₀ :: suite) pos']) (SP X pins D) X.xe s₃) X.xe s₂) X.xe s₁) (fun u s' xx => ?_) PassesOwn.looking).run [] s σ H D (I.toTry _) h) (fun f s1 hsp => ?_) (fun e s1 he => he)
  · -- the catch
    obtain ⟨a, B, sI, pins', σ', H', cls, d, rfl, J', nb, up, sky, na, os, ag, b, hb1, hyes, hno⟩ := xx
    have J : Inv X pins σ' H' sI := J'.ofTry ok
    have sky' : Sky B (X.env :: X.outer) a (Zc cls d) X.env.locals s'.heap := by rw [← hs]; exact sky
    show wpAny (model X.prog X.w) X.A (noteFrame (.ref a) X.env) _ _ _
    refine Sky.land Zc.steady hfr hf sky' fun h3 fl3 up3 => ?_
    have J3 : Inv X pins σ' H' { s' with heap := h3 } := J.landed nb fl3.1 (up.trans up3) os ag
    obtain ⟨oe3, vs3, he3, hz3, hd3⟩ := fl3.there
    have notFr : ∀ {h : Heap} {o : Obj} {vs : Array Value}, h.FunFrames B (X.env :: X.outer) → h.get? a = some o → o.data = .fields vs → a ∉ frs (X.env :: X.outer) := fun {h o vs} ff e dd hm => by
      obtain ⟨_, o', e', hnf⟩ := ff.mem hm
      rw [e] at e'; cases e'
      exact hnf _ dd
    have nfr := notFr fl3.2.2.1 he3 hd3
    have nL : a ≠ X.env.locals := fun z => nfr (List.mem_filterMap.mpr ⟨X.env, List.mem_cons_self, by rw [hf, z]⟩)
    have nF : a ∉ X.fs := fun hm => by
      obtain ⟨e, he, q⟩ := List.mem_filterMap.mp hm
      exact nfr (List.mem_filterMap.mpr ⟨e, List.mem_cons_of_mem _ he, q⟩)
    have nfrX : a ∉ frs X.stack := by rw [hs]; exact nfr
    have neI : ∀ b o, sI.heap.get? b = some o → b ≠ a := fun b o e z => by
      subst z
      have q := nb b o e nfrX
      have q2 : B.get? b = none := fl3.2.1
      rw [q] at q2
      cases q2
    have n0 : ∀ b o, X.s_0.heap.get? b = some o → b ≠ a := fun b o e => by
      obtain ⟨o', e1⟩ := J.base.there b o e (by rw [hex]; exact fun z => nomatch z)
      exact neI b o' e1
    have nc : ∀ x c, X.env.cells.lookup x = some c → c ≠ a := fun x c e => by
      obtain ⟨v, o, e1, _⟩ := J.cell x c e
      exact neI c o e1
    have npn : ∀ p ∈ X.pn ++ pins, p.1 ≠ a := fun p hp => neI _ _ (J.pin p hp).1
    have S3 := J3.suite he3 hd3 na nL nF
    refine wpAny_handleBy_cons (codeAny_handlers_test ?_) (by intro q; cases q)
    have LT : PySem.W.Looks (model X.prog X.w) h3 (typeOf (.ref a)) cls := fun A Q E s k q => wpAny_typeOf_ref (k _ _ he3) (by rw [hz3.1]; exact q)
    have LM := PySem.W.exm_one (M := model X.prog X.w) (J3.kIn) LT hb1
    have test : ∀ {Q : Value → Shared → Prop} {E : Value → Shared → Prop}, Q c { s' with heap := h3 } → wpAny (model X.prog X.w) (X.A.mark (some (.ref a))) (eval (.Name x np) X.env) Q E { s' with heap := h3 } := fun {Q E} q => by
      obtain ⟨hg, hdbg, hm | ⟨hm, hv, hnn⟩⟩ := hc
      · exact ld_glob (X := X.suite a ((a, oe3) :: (X.pn ++ pins))) S3 hg hm q hdbg
      · exact ld_blt (X := X.suite a ((a, oe3) :: (X.pn ++ pins))) S3 hg hm hv q hnn hdbg
    refine test (LM.here ?_)
    cases b with
    | true =>
      refine codeAny_handlers_suite_as ?_
      refine HandSPX.lands_againZ fl3 fun h4 fl4 up4 => ?_
      have J4 : Inv X pins σ' H' { s' with heap := h4 } := J.landed nb fl4.1 ((up.trans up3).trans up4) os ag
      obtain ⟨oe4, vs4, he4, hz4, hd4⟩ := fl4.there
      have S4 := J4.suite he4 hd4 na nL nF
      obtain ⟨C, dd, ec, ed, hts⟩ := hyes rfl a na
      refine store_ok (X := X.suite a ((a, oe4) :: (X.pn ++ pins))) (v := .ref a) S4 hN hi hloc rfl (fun s5 S5 => ?_) (.inr hln)
      refine wpAny_mono ((hsu a oe4 cls d (X.pn ++ pins) hz4 ⟨_, hd4⟩).run [] s5 _ H' _ S5 hts) (fun f s6 hsp => ?_) (fun _ _ z => False.elim z)
      have end_ : ∀ {σ6 : St} {H6 : Hp} {Q : Shared → Prop}, Inv (X.suite a ((a, oe4) :: (X.pn ++ pins))) [] σ6 H6 s6 → (∀ s7, H6 a = none → Inv X pins (σ6.set i none) (upd H6 a (ErrO C dd a)) s7 → Q s7) →
          wpAny (model X.prog X.w) X.A (do bindName X.env n .none; unbindBehindTheSuite X.env n pos') (fun _ s7 => Q s7) X.xe s6 := fun {σ6 H6 Q} S6 hq => by
        obtain ⟨p1, p2, _, _, _⟩ := S6.pin (a, oe4) (by simp)
        exact gone_ok (Inv.track (S6.unsuite ok) p1 (by rw [← ec, ← ed]; exact hz4) hd4 p2 n0 nL nc npn) hN hi hln fun s7 J7 => hq s7 p2 J7
      cases f with
      | next =>
        obtain ⟨σ6, H6, S6, q6⟩ := hsp
        exact end_ S6 fun s7 n7 J7 => ⟨_, _, J7, q6 n7⟩
      | brk =>
        obtain ⟨σ6, H6, S6, q6⟩ := hsp
        exact q6.elim
      | cont =>
        obtain ⟨σ6, H6, S6, q6⟩ := hsp
        exact q6.elim
      | ret u =>
        obtain ⟨v6, σ6, H6, S6, r6, q6⟩ := hsp
        exact q6.elim
    | false =>
      show wpAny _ X.A (handleBy (.ref a) X.env []) _ _ _
      refine wpAny_handleBy_nil ?_
      obtain ⟨k1, k2, k3, oe, vs, T, oT, ts', he, hz, hd, h1, hr⟩ := id fl3
      unfold PySem.passOn
      refine wpAny_bind (wpAny_field he hd h1 ?_)
      rw [if_neg (show ¬ ((Value.ref T == Value.none) = true) from by simp)]
      have fin : wpAny (model X.prog X.w) X.A (setFlight (.ref a) X.env.frame) (fun _ s4 => wpAny (model X.prog X.w) X.A (throw (.ref a) : Sem Flow) (SP X pins D) X.xe s4) X.xe { s' with heap := h3 } := by
        rw [hf]
        refine HandSPX.setFlight_upZ fl3 fun h4 hh4 up4 => wpAny_throw (tk _ _ ?_)
        exact ⟨a, B, sI, pins, σ', H', cls, d, rfl, J, nb, (up.trans up3).trans up4, .inr (.inr (by rw [hs]; exact hh4)), na, os, ag, hno rfl⟩
      first
        | exact wpAny_bind (wpAny_pure (wpAny_bind fin))
        | exact wpAny_bind fin
  · cases f with
    | next =>
      obtain ⟨σ', H', J', q⟩ := hsp
      exact wpAny_execs_nil ⟨σ', H', J'.ofTry ok, q⟩
    | brk =>
      obtain ⟨σ', H', J', q⟩ := hsp
      exact ⟨σ', H', J'.ofTry ok, q⟩
    | cont =>
      obtain ⟨σ', H', J', q⟩ := hsp
      exact ⟨σ', H', J'.ofTry ok, q⟩
    | ret u =>
      obtain ⟨v, σ', H', J', r, q⟩ := hsp
      exact ⟨v, σ', H', J'.ofTry ok, r, q⟩
end
/-! ### f(k = e, ..), with what it raises wished for at the caller's slots -/
section
variable {X : Cx} {CX : CXT} {k : Nat} {f : Addr} {fd : FuncData} {ps ks : List Str} {sp : Sp} {E : St → XK} {x : Str} {p pos : Pos} {kws : List Keyword} {tk : TA} {g : List Value → List Value → List Value} {gV : List V → List V → List V}
def tCallKS (sp : Sp) (gV : List V → List V → List V) (E : St → XK) (tk : TA) : TE := fun σ H Q => tk σ H fun zs H2 => sp (gV [] zs) H2 Q (E σ)
theorem pe_callKS (F : FnOk X.prog X.w X.K X.mg X.base CX k f fd ps sp) (hr : Room k X.A) (hg : Gl X x) (hm : X.mg x = some (.ref f)) (hk : PySem.W.keepIn X.K (.ref f) = true) (hb : KBinds X.K fd ps ks g gV) (hx : ∀ σ, PassesAt CX X σ (E σ))
    (hkw : PK X kws tk) (hall : (backToKw pos (keywordEach kws X.env)).all (·.1.isSome) = true := by rfl) (hks : (backToKw pos (keywordEach kws X.env)).filterMap (·.1) = ks := by rfl)
    (hdb : (x == ("__debug__" : Str)) = false := by decide)
    (hpl : ((backTo pos (starEach [] X.env)).any (·.1) || (backToKw pos (keywordEach kws X.env)).any (·.1.isNone)) = false := by rfl) :
    PE X (.Call (.Name x p) [] kws pos) (tCallKS sp gV E tk) := by
  refine ⟨fun pins s σ H Q I h => ?_⟩
  refine wpAny_Call_Name_kw (ld_glob I hg hm ?_ hdb)
  refine PySem.W.callWith_KW0 (h₀ := X.base) I.ok.mod.kin hk hall ?_ hpl
  refine thn (hkw.run pos pins s σ H _ I h) fun ws s2 ⟨zs, H2, I2, rz, q2⟩ => ⟨I2.kIn, ?_⟩
  rw [hks]
  have r2 := hb.rel (vs := []) (us := []) .nil rz
  have hl : (g [] ws).length = ps.length := by rw [← r2.length]; exact F.len _ _ _ _ q2
  refine wpAny_call (codeAny_mono (F.run X.A X.stack s2 H2 ⟨[], ks.zip ws⟩ (g [] ws) (gV [] zs) Q (E σ) hr I2.env0 (hb.to s2 [] ws I2.kIn hl) r2 q2) fun r s' hq => ?_)
  cases r with
  | error e => exact hx σ pins H2 s2 e s' I2 hq
  | ok fl =>
    cases fl with
    | ret u => exact I2.after hq
    | next => exact False.elim hq
    | brk => exact False.elim hq
    | cont => exact False.elim hq
end
/-! ### small ones -/
section
variable {X : Cx}
def rLcm : List V → Hp → VK → Prop := fun vs H Q => ∃ a b : Nat, vs = [.int a, .int b] ∧ a < 2 ^ 60 ∧ b < 2 ^ 60 ∧ Q (.int ((Nat.lcm a b : Nat) : Int)) H
theorem cr_lcm : CallR X (.builtin "math.lcm") rLcm := by
  intro pins s σ H vs us Q I r h
  obtain ⟨a, b, rfl, ha, hb, q⟩ := h
  obtain ⟨t, u, rfl⟩ := Vals.int2 r
  have e : (((Nat.lcm 1 (a : Int).natAbs).lcm (b : Int).natAbs : Nat) : Int) = ((Nat.lcm a b : Nat) : Int) := by
    rw [Nat.lcm_one_left]
    rfl
  refine PySem.W.mg_lcm_v (by show a < _; exact Nat.lt_trans ha (by decide)) (by show b < _; exact Nat.lt_trans hb (by decide)) e ?_ ⟨.int _, H, I.tok _, ⟨_, rfl⟩, q⟩
  show (Nat.lcm a b).log2 < bitsLine
  have h1 : Nat.lcm a b < 2 ^ 120 := by
    by_cases z : a = 0
    · rw [z, Nat.lcm_zero_left]; decide
    · by_cases z2 : b = 0
      · rw [z2, Nat.lcm_zero_right]; decide
      · have h3 : Nat.lcm a b ≤ a * b := Nat.le_of_dvd (Nat.mul_pos (by omega) (by omega)) (Nat.lcm_dvd_mul a b)
        have h2 : a * b < 2 ^ 60 * 2 ^ 60 := Nat.mul_lt_mul_of_lt_of_lt ha hb
        exact Nat.lt_of_le_of_lt h3 (by rw [← Nat.pow_add] at h2; exact h2)
  exact Nat.lt_of_lt_of_le (PySem.Flt.log2_lt_of (by decide) h1) (by decide)
def rSetOfM (K : PySem.W.Frag) (w : World) : List V → Hp → VK → Prop := fun xs H Q => ∃ (l : Addr) (ns : List Int), xs = [.ref l] ∧ SqL K H l (ns.map V.int) ∧ ns.length ≤ 1000 ∧
  ∀ p c, H p = none → c ≤ ns.length → Q (.ref p) (upd H p (SetO w p (fun j => decide (j ∈ ns)) c))
theorem cr_setOfM (hc : X.calm = true) : CallR X (.type "set") (rSetOfM X.K X.w) := by
  intro pins s σ H xs us Q I r h
  obtain ⟨l, ns, rfl, hs, few, q⟩ := h
  cases r with
  | cons rx rr =>
    cases rr
    cases rx
    obtain ⟨its, rv, lt, hlen⟩ := I.list hs
    have hi : IntsAre its.toArray.toList ns := ints_of_vals rv
    obtain ⟨ol, n, ho, hcl, hdn, hdt⟩ := lt
    refine set_of_list ns (I.ok.hd hc) ?_ hi (by unfold scanBound; omega) fun h' tk c R small keep => ?_
    · exact ⟨ol, ho, hcl, n, hdt⟩
    · exact ⟨.ref _, _, I.laid (t' := tk) keep (Nat.le_refl _) (setO_new R), rfl, q _ c (I.hok.fresh (Nat.le_refl _)) small⟩
theorem fm_some {α β : Type} {f : α → Option β} {g : α → β} : ∀ {l : List α}, (∀ x ∈ l, f x = some (g x)) → l.filterMap f = l.map g
  | [], _ => rfl
  | x :: l, h => by
    rw [List.filterMap_cons, h x List.mem_cons_self, List.map_cons, fm_some fun y hy => h y (List.mem_cons_of_mem _ hy)]
theorem slicePick_rev (its : List Value) : slicePick its.toArray none none (some (-1)) = its.reverse.toArray := by
  unfold slicePick
  have h : sliceBounds none none (some (-1)) its.toArray.size = ((its.length : Int) - 1, -1, -1) := by
    simp [sliceBounds]
  rw [h]
  have c : (if (its.length : Int) - 1 > -1 then ((its.length : Int) - 1 - -1 - -1 - 1) / (- -1) else 0).toNat = its.length := by
    split
    · have : ((its.length : Int) - 1 - -1 - -1 - 1) / (- -1) = its.length := by
        rw [show (- -1 : Int) = 1 by decide, Int.ediv_one]
        omega
      rw [this]
      simp
    · omega
  have e0 : sliceRange ((its.length : Int) - 1) (-1) (-1) = (List.range its.length).map fun k : Nat => ((its.length : Int) - 1 + -1 * (k : Int)).toNat := by
    show (List.range (if (its.length : Int) - 1 > -1 then ((its.length : Int) - 1 - -1 - -1 - 1) / (- -1) else 0).toNat).map _ = _
    rw [c]
  show (List.filterMap (its.toArray[·]?) (sliceRange ((its.length : Int) - 1) (-1) (-1))).toArray = _
  rw [e0, List.filterMap_map]
  congr 1
  refine List.ext_getElem? fun k => ?_
  have e : (List.range its.length).filterMap ((its.toArray[·]?) ∘ fun k : Nat => ((its.length : Int) - 1 + -1 * (k : Int)).toNat) = (List.range its.length).map fun k => its.getD (its.length - 1 - k) .none := by
    refine fm_some fun j hj => ?_
    have hj' := List.mem_range.mp hj
    have z : ((its.length : Int) - 1 + -1 * (j : Int)).toNat = its.length - 1 - j := by omega
    simp only [Function.comp, z]
    rw [List.getElem?_toArray, List.getElem?_eq_getElem (by omega), List.getD_eq_getElem?_getD, List.getElem?_eq_getElem (by omega)]
    try rfl
  rw [e]
  by_cases hk : k < its.length
  · rw [List.getElem?_map, List.getElem?_range hk, List.getElem?_reverse hk, List.getElem?_eq_getElem (by omega)]
    simp [List.getD_eq_getElem?_getD, List.getElem?_eq_getElem (show its.length - 1 - k < its.length by omega)]
  · rw [List.getElem?_eq_none (by simp; omega), List.getElem?_eq_none (by simp; omega)]
/-- xs[::e], e the int -1 -/
def tRev (K : PySem.W.Frag) (te tst : TE) : TE := fun σ H Q => te σ H fun x H1 => tst σ H1 fun y H2 => y = .int (-1) ∧ ∃ a xs, x = .ref a ∧ SqL K H2 a xs ∧ ∀ p, H2 p = none → Q (.ref p) (upd H2 p (.lst xs.reverse))
theorem pe_rev {e st : Expr} {te tst : TE} {p2 pos : Pos} (he : PE X e te) (hst : PE X st tst) : PE X (.Subscript e (.Slice none none (some st) p2) pos) (tRev X.K te tst) := by
  refine ⟨fun pins s σ H Q I h => ?_⟩
  refine Subscript_ (thn (he.run pins s σ H _ I h) fun v s1 ⟨x, H1, I1, r1, q1⟩ => ?_)
  refine wpAny_Slice ?_
  rw [evalPart_none, evalPart_some]
  refine wpAny_pure (wpAny_pure (thn (hst.run pins s1 σ H1 _ I1 q1) fun vs s3 ⟨y, H3, I3, ry, ey, a, xs, ex, hx, q⟩ => ?_))
  subst ey
  subst ex
  cases r1
  obtain ⟨t, rfl⟩ := ry
  have I4 : Inv X pins σ H3 { s3 with heap := s3.heap.push { cls := .type "slice", data := .fields #[.none, .none, .int (-1) t] } } := I3.kept (t' := s3.toks) fun b ob q => Heap.get?_push_of_some _ q
  obtain ⟨its, r, ht, hz⟩ := I4.list hx
  have hlen := r.length
  show wpAny (model X.prog X.w) X.A (subscriptTail e (.Slice none none (some st) p2) (.ref a) (.ref s3.heap.objs.size)) (EP X pins σ Q) X.xe { s3 with heap := s3.heap.push { cls := .type "slice", data := .fields #[.none, .none, .int (-1) t] } }
  refine tail_any (ops := [.ref a, .ref s3.heap.objs.size]) ht.isList.typeIs PySem.F.slot_list_getitem.lookup ?_ (by with_unfolding_all rfl)
  refine wpAny_getItem_list_slice ht.isList (Heap.IsSliceOf.new ..) .none .none (.int _ _) (by decide) ?_ (by rw [List.size_toArray] <;> omega)
  rw [slicePick_rev]
  refine ⟨.ref (s3.heap.push { cls := .type "slice", data := .fields #[.none, .none, .int (-1) t] }).objs.size, _, I4.laid (t' := s3.toks) (o := .lst xs.reverse) (fun b ob q => Heap.get?_push_of_some _ q) (Nat.le_refl _) ?_, rfl, q _ (I4.hok.fresh (Nat.le_refl _))⟩
  exact ⟨by rw [List.length_reverse]; exact hz, _, 0, r.reverse, Heap.get?_push_size _ rfl⟩
end
end L2

set_option Elab.async false
set_option linter.all false
set_option maxRecDepth 100000
set_option maxHeartbeats 4000000
/-! zip(a, b) of two lists, held by a name and walked once -/
namespace L2
open PySem PySem.Spec PyProof.Rows PySem.HouseX
/-- what is true of the object at a alone; a is newer than the def's entry -/
def NewO (fs : List Addr) (n0 : Nat) (φ : Heap → Prop) (a : Addr) : HO := .ext fun h => (a ∉ fs ∧ n0 ≤ a) ∧ φ h
def delA (H : Hp) (a : Addr) : Hp := fun b => if b = a then none else H b
theorem delA_same {H : Hp} {a : Addr} : delA H a a = none := by unfold delA; rw [if_pos rfl]
theorem delA_ne {H : Hp} {a b : Addr} (h : b ≠ a) : delA H a b = H b := by unfold delA; rw [if_neg h]
section
variable {X : Cx} {pins : List (Addr × Obj)} {σ : St} {H : Hp} {s : Shared}
theorem Inv.trackX {a : Addr} {φ : Heap → Prop} (I : Inv X pins σ H s) (na : H a = none) (nL : a ≠ X.env.locals) (nF : a ∉ X.fs) (n0 : X.s_0.heap.objs.size ≤ a) (nc : ∀ x c, X.env.cells.lookup x = some c → c ≠ a) (np : ∀ p ∈ X.pn ++ pins, p.1 ≠ a)
    (hp : φ s.heap) (ho : ∃ o, s.heap.get? a = some o) (st : ∀ h1 h2 : Heap, φ h1 → (∀ o, h1.get? a = some o → h2.get? a = some o) → φ h2) : Inv X pins σ (upd H a (NewO X.fs X.s_0.heap.objs.size φ a)) s := by
  have ne : ∀ {b : Addr} {o : HO}, H b = some o → b ≠ a := fun {b o} e z => by
    rw [z, na] at e
    cases e
  refine ⟨I.ok, I.os, I.bare, ⟨I.base.keep, I.base.slot, fun b o e n hx => ?_, I.base.there, fun b xs e => ?_, fun b o u e => ?_, fun b ps e => ?_⟩, I.loc, I.cell, ?_, fun x c e => ?_, fun p hp => ?_, fun b u e => ?_, I.len⟩
  · rw [upd_ne (Nat.ne_of_lt (Nat.lt_of_lt_of_le (Heap.lt_size e) n0))]
    exact I.base.free b o e n hx
  · have q := I.base.tups b xs e
    rw [upd_ne (ne q)]
    exact q
  · have q := I.base.frzs b o u e
    rw [upd_ne (ne q)]
    exact q
  · obtain ⟨m, q⟩ := I.base.tbls b ps e
    exact ⟨m, by rw [upd_ne (ne q)]; exact q⟩
  · rw [upd_ne (Ne.symm nL)]
    exact I.free
  · rw [upd_ne (nc x c e)]
    exact I.freeC x c e
  · obtain ⟨e, n, x1, x2, x3⟩ := I.pin p hp
    exact ⟨e, by rw [upd_ne (np p hp)]; exact n, x1, x2, x3⟩
  · by_cases hb : b = a
    · rw [hb, upd_same] at e
      cases e
      rw [hb]
      exact ⟨⟨⟨nF, n0⟩, hp⟩, ho, fun h1 h2 ⟨q1, q2⟩ k => ⟨q1, st h1 h2 q2 k⟩⟩
    · rw [upd_ne hb] at e
      refine (I.hok b u e).stay (fun c v _ q => q) (fun c q => ?_) fun c xs q => ?_
      · rw [upd_ne (ne q)]
        exact q
      · rw [upd_ne (ne q)]
        exact q
theorem Inv.dropX {a : Addr} {φ : Heap → Prop} (I : Inv X pins σ H s) (ha : H a = some (NewO X.fs X.s_0.heap.objs.size φ a)) : Inv X pins σ (delA H a) s ∧ FpOk X pins (delA H a) a ∧ φ s.heap := by
  obtain ⟨⟨⟨nF, n0⟩, hφ⟩, _, _⟩ := I.hok a _ ha
  have neN : ∀ b, H b = none → b ≠ a := fun b e z => by
    rw [z, ha] at e
    cases e
  have del : ∀ b, H b = none → delA H a b = none := fun b e => by rw [delA_ne (neN b e)]; exact e
  have nL : a ≠ X.env.locals := Ne.symm (neN _ I.free)
  have nc : ∀ x c, X.env.cells.lookup x = some c → c ≠ a := fun x c e => neN _ (I.freeC x c e)
  have np : ∀ p ∈ X.pn ++ pins, p.1 ≠ a := fun p hp => neN _ (I.pin p hp).2.1
  have keep : ∀ {b : Addr} {o : HO}, H b = some o → (∀ ψ, o ≠ .ext ψ) → delA H a b = some o := fun {b o} e n => by
    rw [delA_ne (fun z => by rw [z, ha] at e; exact n _ (Option.some.inj e).symm)]
    exact e
  refine ⟨⟨I.ok, I.os, I.bare, ⟨I.base.keep, I.base.slot, fun b o e n hx => del b (I.base.free b o e n hx), I.base.there, fun b xs e => keep (I.base.tups b xs e) (fun _ z => nomatch z), fun b o u e => keep (I.base.frzs b o u e) (fun _ z => nomatch z), fun b ps e => ?_⟩, I.loc, I.cell, del _ I.free, fun x c e => del _ (I.freeC x c e), fun p hp => ?_, fun b u e => ?_, I.len⟩, ⟨delA_same, nL, nF, .inr n0, nc, np⟩, hφ⟩
  · obtain ⟨m, q⟩ := I.base.tbls b ps e
    exact ⟨m, keep q (fun _ z => nomatch z)⟩
  · obtain ⟨e, n, x1, x2, x3⟩ := I.pin p hp
    exact ⟨e, del _ n, x1, x2, x3⟩
  · have hb : b ≠ a := fun z => by
      rw [z, delA_same] at e
      cases e
    rw [delA_ne hb] at e
    exact (I.hok b u e).stay (fun c v _ q => q) (fun c q => keep q (fun _ z => nomatch z)) fun c xs q => keep q (fun _ z => nomatch z)
/-- what stands of a zip that is not begun -/
structure ZipH (fs : List Addr) (n0 : Nat) (H : Hp) (z TI TO i1 i2 a b : Addr) : Prop where
  ap : ZipApart z TI TO i1 i2 a b
  z : H z = some (NewO fs n0 (fun h => IsZip h z TI TO .none) z)
  TI : H TI = some (NewO fs n0 (fun h => IsPair h TI (.ref i1) (.ref i2)) TI)
  TO : H TO = some (NewO fs n0 (fun h => ∃ x y, IsPair h TO x y) TO)
  i1 : H i1 = some (NewO fs n0 (fun h => h.IsListIter i1 a 0) i1)
  i2 : H i2 = some (NewO fs n0 (fun h => h.IsListIter i2 b 0) i2)
theorem ZipH.same {fs : List Addr} {n0 : Nat} {H H' : Hp} {z TI TO i1 i2 a b : Addr} (Z : ZipH fs n0 H z TI TO i1 i2 a b) (k : ∀ x o, H x = some o → H' x = some o) : ZipH fs n0 H' z TI TO i1 i2 a b := ⟨Z.ap, k _ _ Z.z, k _ _ Z.TI, k _ _ Z.TO, k _ _ Z.i1, k _ _ Z.i2⟩
def rZip (K : PySem.W.Frag) (fs : List Addr) (n0 : Nat) : List V → Hp → VK → Prop := fun vs H1 Q => ∃ a b xs ys, vs = [.ref a, .ref b] ∧ SqL K H1 a xs ∧ SqL K H1 b ys ∧
  ∀ H2 z TI TO i1 i2, ZipH fs n0 H2 z TI TO i1 i2 a b → H1 z = none → H1 TI = none → H1 TO = none → H1 i1 = none → H1 i2 = none → (∀ x, x ≠ z → x ≠ TI → x ≠ TO → x ≠ i1 → x ≠ i2 → H2 x = H1 x) → Q (.ref z) H2
theorem nea {n i j : Nat} (h : i ≠ j) : (n + i : Nat) ≠ n + j := by omega
theorem ne0 {n j : Nat} (h : j ≠ 0) : (n : Nat) ≠ n + j := by omega
theorem ne1 {n j : Nat} (h : j ≠ 0) : (n + j : Nat) ≠ n := by omega
theorem cr_zip : CallR X (.type "zip") (rZip X.K X.fs X.s_0.heap.objs.size) := by
  intro pins s1 σ H1 vs us Q I1 r1 h
  obtain ⟨a, b, xs, ys, rfl, hqx, hqy, q⟩ := h
  cases r1 with
  | cons r rr =>
    cases rr with
    | cons r' rr =>
      cases rr
      cases r
      cases r'
      obtain ⟨its, rv, p1, _⟩ := I1.list hqx
      obtain ⟨its2, rv2, p2, _⟩ := I1.list hqy
      have la : a < s1.heap.objs.size := p1.lt
      have lb : b < s1.heap.objs.size := p2.lt
      refine call_zip_2 p1.isList p2.isList fun h' hz hTI hTO h1 h2 hsz hk => ?_
      have I2 : Inv X pins σ H1 { s1 with heap := h' } := I1.kept (t' := s1.toks) hk
      obtain ⟨n, hn⟩ : ∃ n, n = s1.heap.objs.size := ⟨_, rfl⟩
      rw [← hn] at hz hTI hTO h1 h2 hsz la lb ⊢
      have fp : ∀ c, n ≤ c → FpOk X pins H1 c := fun c hc => I1.fpOk (by rw [← hn]; exact hc) (I1.hok.fresh (by rw [← hn]; exact hc))
      have sz : X.s_0.heap.objs.size ≤ n := by rw [hn]; exact I1.sz
      have none1 : ∀ c, n ≤ c → H1 c = none := fun c hc => (fp c hc).1
      have ap : ZipApart (n + 4) (n + 2) (n + 3) n (n + 1) a b := PySem.W.ktu_apart n a b la lb
      have A1 := Inv.trackX (a := n + 4) (φ := fun h => IsZip h (n + 4) (n + 2) (n + 3) .none) I2 (none1 _ (by omega)) (fp _ (by omega)).2.1 (fp _ (by omega)).2.2.1 (by omega) (fp _ (by omega)).2.2.2.2.1 (fp _ (by omega)).2.2.2.2.2 hz ⟨_, hz⟩ (fun _ _ e k => k _ e)
      have e1 : ∀ c, c ≠ n + 4 → n ≤ c → (upd H1 (n + 4) (NewO X.fs X.s_0.heap.objs.size (fun h => IsZip h (n + 4) (n + 2) (n + 3) .none) (n + 4))) c = none := fun c hc hn => by rw [upd_ne hc]; exact none1 c hn
      have A2 := Inv.trackX (a := n + 2) (φ := fun h => IsPair h (n + 2) (.ref n) (.ref (n + 1))) A1 (e1 _ (by first | exact nea (by decide) | exact ne0 (by decide) | exact ne1 (by decide)) (by omega)) (fp _ (by omega)).2.1 (fp _ (by omega)).2.2.1 (by omega) (fp _ (by omega)).2.2.2.2.1 (fp _ (by omega)).2.2.2.2.2 hTI ⟨_, hTI⟩ (fun _ _ e k => k _ e)
      have A3 := Inv.trackX (a := n + 3) (φ := fun h => ∃ x y, IsPair h (n + 3) x y) A2 (by rw [upd_ne (by first | exact nea (by decide) | exact ne0 (by decide) | exact ne1 (by decide))]; exact e1 _ (by first | exact nea (by decide) | exact ne0 (by decide) | exact ne1 (by decide)) (by omega)) (fp _ (by omega)).2.1 (fp _ (by omega)).2.2.1 (by omega) (fp _ (by omega)).2.2.2.2.1 (fp _ (by omega)).2.2.2.2.2 ⟨_, _, hTO⟩ ⟨_, hTO⟩ (fun _ _ ⟨x, y, e⟩ k => ⟨x, y, k _ e⟩)
      have A4 := Inv.trackX (a := n) (φ := fun h => h.IsListIter n a 0) A3 (by rw [upd_ne (by first | exact nea (by decide) | exact ne0 (by decide) | exact ne1 (by decide)), upd_ne (by first | exact nea (by decide) | exact ne0 (by decide) | exact ne1 (by decide))]; exact e1 _ (by first | exact nea (by decide) | exact ne0 (by decide) | exact ne1 (by decide)) (by omega)) (fp _ (by omega)).2.1 (fp _ (by omega)).2.2.1 (by omega) (fp _ (by omega)).2.2.2.2.1 (fp _ (by omega)).2.2.2.2.2 h1 (by obtain ⟨o, e, _⟩ := h1; exact ⟨o, e⟩) (fun _ _ e k => e.at fun o q => k o q)
      have A5 := Inv.trackX (a := n + 1) (φ := fun h => h.IsListIter (n + 1) b 0) A4 (by rw [upd_ne (by first | exact nea (by decide) | exact ne0 (by decide) | exact ne1 (by decide)), upd_ne (by first | exact nea (by decide) | exact ne0 (by decide) | exact ne1 (by decide)), upd_ne (by first | exact nea (by decide) | exact ne0 (by decide) | exact ne1 (by decide))]; exact e1 _ (by first | exact nea (by decide) | exact ne0 (by decide) | exact ne1 (by decide)) (by omega)) (fp _ (by omega)).2.1 (fp _ (by omega)).2.2.1 (by omega) (fp _ (by omega)).2.2.2.2.1 (fp _ (by omega)).2.2.2.2.2 h2 (by obtain ⟨o, e, _⟩ := h2; exact ⟨o, e⟩) (fun _ _ e k => e.at fun o q => k o q)
      refine ⟨.ref (n + 4), _, A5, rfl, q _ (n + 4) (n + 2) (n + 3) n (n + 1) ⟨ap, ?_, ?_, ?_, ?_, ?_⟩ (none1 _ (by omega)) (none1 _ (by omega)) (none1 _ (by omega)) (none1 _ (by omega)) (none1 _ (by omega)) fun x x1 x2 x3 x4 x5 => by rw [upd_ne x5, upd_ne x4, upd_ne x3, upd_ne x2, upd_ne x1]⟩
      · rw [upd_ne (by first | exact nea (by decide) | exact ne0 (by decide) | exact ne1 (by decide)), upd_ne (by first | exact nea (by decide) | exact ne0 (by decide) | exact ne1 (by decide)), upd_ne (by first | exact nea (by decide) | exact ne0 (by decide) | exact ne1 (by decide)), upd_ne (by first | exact nea (by decide) | exact ne0 (by decide) | exact ne1 (by decide)), upd_same]
      · rw [upd_ne (by first | exact nea (by decide) | exact ne0 (by decide) | exact ne1 (by decide)), upd_ne (by first | exact nea (by decide) | exact ne0 (by decide) | exact ne1 (by decide)), upd_ne (by first | exact nea (by decide) | exact ne0 (by decide) | exact ne1 (by decide)), upd_same]
      · rw [upd_ne (by first | exact nea (by decide) | exact ne0 (by decide) | exact ne1 (by decide)), upd_ne (by first | exact nea (by decide) | exact ne0 (by decide) | exact ne1 (by decide)), upd_same]
      · rw [upd_ne (by first | exact nea (by decide) | exact ne0 (by decide) | exact ne1 (by decide)), upd_same]
      · rw [upd_same]
def drop5 (H : Hp) (z TI TO i1 i2 : Addr) : Hp := delA (delA (delA (delA (delA H z) TI) TO) i1) i2
def iZipV (K : PySem.W.Frag) (fs : List Addr) (n0 : Nat) (te : TE) : TI := fun σ H R => te σ H fun x H1 => ∃ z TI TO i1 i2 a b, x = .ref z ∧ ZipH fs n0 H1 z TI TO i1 i2 a b ∧ R (Itz K a b) (drop5 H1 z TI TO i1 i2)
theorem fp_del {X : Cx} {pins : List (Addr × Obj)} {H : Hp} {a b : Addr} (f : FpOk X pins H b) : FpOk X pins (delA H a) b := by
  refine ⟨?_, f.2⟩
  by_cases e : b = a
  · rw [e, delA_same]
  · rw [delA_ne e]; exact f.1
theorem pi_zipV {e : Expr} {te : TE} {tpos : Pos} {elts : List Expr} {kk : Nat} (he : PE X e te) : PI X (.Tuple elts kk tpos) e (iZipV X.K X.fs X.s_0.heap.objs.size te) := by
  refine ⟨fun pins s σ H R I h => ?_⟩
  refine thn (he.run pins s σ H _ I h) fun u s1 ⟨x, H1, I1, r1, z, TI, TO, i1, i2, a, b, ex, Z, q⟩ => ?_
  subst ex
  obtain rfl : u = Value.ref z := r1
  have A := Z.ap
  obtain ⟨J1, f1, g1⟩ := I1.dropX Z.z
  obtain ⟨J2, f2, g2⟩ := J1.dropX (by rw [delA_ne A.TIz]; exact Z.TI)
  obtain ⟨J3, f3, g3⟩ := J2.dropX (by rw [delA_ne (Ne.symm A.TITO), delA_ne A.TOz]; exact Z.TO)
  obtain ⟨J4, f4, g4⟩ := J3.dropX (by rw [delA_ne (Ne.symm A.TOi1), delA_ne (Ne.symm A.TIi1), delA_ne A.i1z]; exact Z.i1)
  obtain ⟨J5, f5, g5⟩ := J4.dropX (by rw [delA_ne (Ne.symm A.i12), delA_ne (Ne.symm A.TOi2), delA_ne (Ne.symm A.TIi2), delA_ne A.i2z]; exact Z.i2)
  refine wpAny_pyIter_zip g1 ?_
  refine ⟨z, [z, TI, TO, i1, i2], _, _, drop5 H1 z TI TO i1 i2, rfl, J5, turn_zip A, ⟨g1, g2, g3, g4, g5⟩, fun c hc => ?_, q⟩
  have e' : c = z ∨ c = TI ∨ c = TO ∨ c = i1 ∨ c = i2 := by simpa using hc
  rcases e' with e | e | e | e | e
  · rw [e]; exact fp_del (fp_del (fp_del (fp_del f1)))
  · rw [e]; exact fp_del (fp_del (fp_del f2))
  · rw [e]; exact fp_del (fp_del f3)
  · rw [e]; exact fp_del f4
  · rw [e]; exact f5
end
end L2

set_option Elab.async false
set_option linter.all false
set_option maxRecDepth 100000
set_option maxHeartbeats 4000000
/-! sorted(s), s a set of ints, any number of members that such a set may have -/
namespace L2
open PySem PySem.Spec PyProof.Rows PySem.HouseX SrtO
section
variable {P : Program} {w : World} {A : Around} {E : Value → Shared → Prop} {s : Shared} {a : Addr}
theorem sorted_setB {S : Int → Bool} {n : Nat} {Q : Value → Shared → Prop} (R : SetR w s.heap a S n) (hh : A.handled = none)
    (hQ : ∀ s' p (out : Array Value) (c : Nat) (ns : List Int), (∀ b o, s.heap.get? b = some o → s'.heap.get? b = some o) → s'.gens = s.gens → s'.os = s.os → s.heap.objs.size ≤ p →
      s'.heap.get? p = some (seqObj "list" out c) → IntsAre out.toList ns → ns.Pairwise (· < ·) → (∀ k, k ∈ ns ↔ S k = true) → ns.length = n → Q (.ref p) s') :
    wpAny (model P w) A (call (.builtin "sorted") [.ref a]) Q E s := by
  obtain ⟨o, es, ep, t, ho, hex, hd, g, nd, hm, hb, hf, hn, hr, hl⟩ := R
  refine Calls.call_function_entry kind_sorted plain_sorted entry_sorted (args_sorted1 _) ?_
  unfold Builtin.«sorted»
  refine wpAny_bind (m := checkCount "sorted" 1 1 _) (wpAny_pure ?_)
  refine wpAny_bind (collect_set (A := A.in1) hh ⟨o, ho, hex.1, hd⟩ hf hb hr hl fun s1 vs k1 hz g1 o1 pm => ?_)
  have hvl : vs.length = n := by rw [pm.length_eq, List.length_map, Array.length_toList]; exact hn
  have n64 : n ≤ sizeLine := by
    rw [← hn, sizeLine_eq]
    have : es.size < 4096 := hb
    omega
  have hI : IntsAre vs (vs.map Builtin.Re.reRawOf) := ints_of vs fun v hv => by
    obtain ⟨e, he, q⟩ := List.mem_map.mp (pm.mem_iff.mp hv)
    obtain ⟨k, tk, h1, _⟩ := g e he
    exact ⟨k, tk, by rw [← q]; exact h1⟩
  have pk : (vs.map Builtin.Re.reRawOf).Perm (es.toList.map keyOf) := by
    have q := pm.map Builtin.Re.reRawOf
    rw [List.map_map] at q
    exact q
  refine wpAny_bind (wpAny_newList ?_ (by rw [hvl]; exact n64))
  have hoL : (s1.heap.push (seqObj "list" vs.toArray 0)).get? s1.heap.objs.size = some (seqObj "list" vs.toArray 0) := Heap.get?_push_size _ rfl
  refine wpAny_bind (wpAny_holding (wpAny_call_entry slot_list_sort ⟨_, hoL, rfl⟩ entry_list_sort (SrtO.list_sort_ord SrtO.swo_int hoL (by rw [hvl]; exact n64) (fun h2 => SrtO.ints_sortable hI h2) fun out hs hb2 => ⟨_, rfl, ?_⟩) (args_list_sort _)))
  obtain ⟨a1, a2, a3⟩ := SrtO.ints_out hI hs hb2
  obtain ⟨c, hc⟩ := sortedHeap_at (vs := vs) (out := out.toArray) hoL
  have pn : (out.map SrtO.iv).Perm (es.toList.map keyOf) := a2.trans pk
  refine wpAny_pure ⟨_, rfl, hQ _ s1.heap.objs.size out.toArray c (out.map SrtO.iv) (fun b u e => ?_) g1 o1 hz hc a1 (lt_of_le_nodup _ a3 (pn.nodup_iff.mpr nd)) (fun k => by rw [pn.mem_iff, ← hm k]) ?_⟩
  · have q := k1 b u e
    have hlt := Heap.lt_size q
    show (sortedHeap (s1.heap.push (seqObj "list" vs.toArray 0)) s1.heap.objs.size vs out.toArray).get? b = some u
    rw [sortedHeap_old (Nat.ne_of_lt hlt) (by rw [size_push']; exact Nat.lt_succ_of_lt hlt)]
    exact Heap.get?_push_of_some _ q
  · rw [pn.length_eq, List.length_map, Array.length_toList]; exact hn
end
section
variable {X : Cx}
def rSortedSetB (w : World) : List V → Hp → VK → Prop := fun vs H Q => ∃ (a : Addr) (S : Int → Bool) (n : Nat), vs = [V.ref a] ∧ H a = some (SetO w a S n) ∧ n < 100000 ∧
  ∀ (ns : List Int) (p : Addr), ns.Pairwise (· < ·) → (∀ k : Int, k ∈ ns ↔ S k = true) → ns.length = n → H p = none → Q (.ref p) (upd H p (.lst (ns.map V.int)))
theorem cr_sortedSetB (hc : X.calm = true) : CallR X (.builtin "sorted") (rSortedSetB X.w) := by
  intro pins s σ H vs us Q I r h
  obtain ⟨a, S, n, rfl, ha, h64, q⟩ := h
  have R := setO_get I ha
  rw [Vals.ref1 r]
  refine sorted_setB R (I.ok.hd hc) fun s' p out c ns k g o hp hg hi hs hm hl => ?_
  have hlen : (ns.map V.int).length ≤ sizeLine := by rw [List.length_map, hl, sizeLine_eq]; omega
  have hn : H p = none := I.hok.fresh hp
  have J : Inv X pins σ (upd H p (.lst (ns.map V.int))) { s with heap := s'.heap, gens := s'.gens, drawn := s'.drawn, toks := s'.toks } :=
    I.call (ch := []) (Un.laid k hp hn) (I.hok.laid k hp ⟨hlen, out.toList, c, vals_of_ints hi, hg⟩) (by rw [g]; exact I.bare) (fun _ z => nomatch z)
  have e : s' = { s with heap := s'.heap, gens := s'.gens, drawn := s'.drawn, toks := s'.toks } := by
    cases s'
    cases s
    cases o
    rfl
  rw [e]
  exact ⟨.ref p, _, J, rfl, q ns p hs hm hl hn⟩
end
end L2

set_option Elab.async false
set_option linter.all false
set_option maxRecDepth 100000
set_option maxHeartbeats 4000000
/-! zip(t, l): t a tuple, l a list -/
namespace L2
open PySem PySem.Spec PyProof.Rows PySem.HouseX
def ItzM (K : PySem.W.Frag) (a b : Addr) : It where
  go := fun i H => ∃ (xs ys : List V) (x y : V), SqT K H a xs ∧ SqL K H b ys ∧ xs[i]? = some x ∧ ys[i]? = some y
  yld := fun i H v H' => ∃ T x y, v = .ref T ∧ H T = none ∧ H' = upd H T (.tup [x, y]) ∧ (∀ xs, SqT K H a xs → xs[i]? = some x) ∧ ∀ ys, SqL K H b ys → ys[i]? = some y
  stop := fun i H => ∃ xs ys : List V, SqT K H a xs ∧ SqL K H b ys ∧ i ≤ xs.length ∧ i ≤ ys.length ∧ (i = xs.length ∨ i = ys.length)
theorem sep_of {z TI TO i1 i2 a b : Addr} (D : ZipApart z TI TO i1 i2 a b) : ZipSep2 z TI TO i1 i2 [i1, a] [i2, b] where
  TIz := D.TIz
  TOz := D.TOz
  TITO := D.TITO
  TIi1 := D.TIi1
  mem1 := by simp
  zf1 := by simp [Ne.symm D.i1z, Ne.symm D.l1z]
  Tf1 := by simp [D.TOi1, Ne.symm D.l1TO]
  TIi2 := D.TIi2
  mem2 := by simp
  zf2 := by simp [Ne.symm D.i2z, Ne.symm D.l2z]
  Tf2 := by simp [D.TOi2, Ne.symm D.l2TO]
  sep1_2 := by simp [D.i12, Ne.symm D.l2i1]
  sep2_1 := by simp [Ne.symm D.i12, Ne.symm D.l1i2]
/-- where a zip over a tuple and a list stands -/
structure ZipM (a b z TI TO i1 i2 : Addr) (i : Nat) (h : Heap) : Prop where
  zip : IsZip h z TI TO .none
  ins : IsTupOf2 h TI (.ref i1) (.ref i2)
  out : ∃ x y, IsTupOf2 h TO x y
  one : h.IsTupleIter i1 a i
  two : h.IsListIter i2 b i
theorem five {α : Type} {c z TI TO i1 i2 : α} : c ∈ [z, TI, TO, i1, i2] ↔ c = z ∨ c = TI ∨ c = TO ∨ c = i1 ∨ c = i2 := by simp
theorem ZipM.has {a b z TI TO i1 i2 : Addr} {i : Nat} {h : Heap} (S : ZipM a b z TI TO i1 i2 i h) : ∀ c ∈ [z, TI, TO, i1, i2], ∃ o, h.get? c = some o ∧ ∀ v, o.data ≠ .cell v := fun c hc => by
  obtain ⟨x, y, eo⟩ := S.out
  obtain ⟨o1, g1, _, d1⟩ := S.one
  obtain ⟨o2, g2, _, d2⟩ := S.two
  rcases five.mp hc with rfl | rfl | rfl | rfl | rfl
  · exact ⟨_, S.zip, fun _ w => nomatch w⟩
  · exact ⟨_, S.ins, fun _ w => nomatch w⟩
  · exact ⟨_, eo, fun _ w => nomatch w⟩
  · exact ⟨o1, g1, fun _ w => by rw [d1] at w; cases w⟩
  · exact ⟨o2, g2, fun _ w => by rw [d2] at w; cases w⟩
theorem ZipM.move {a b z TI TO i1 i2 : Addr} {i : Nat} {h h' : Heap} (S : ZipM a b z TI TO i1 i2 i h) (k : ∀ c ∈ [z, TI, TO, i1, i2], ∀ o, h.get? c = some o → h'.get? c = some o) : ZipM a b z TI TO i1 i2 i h' := by
  obtain ⟨x, y, eo⟩ := S.out
  exact ⟨k z (by simp) _ S.zip, k TI (by simp) _ S.ins, ⟨x, y, k TO (by simp) _ eo⟩, S.one.at fun o w => k i1 (by simp) o w, S.two.at fun o w => k i2 (by simp) o w⟩
theorem turn_zipM {P : Program} {w : World} {K : PySem.W.Frag} {elts : List Expr} {kk : Nat} {tpos : Pos} {a b z TI TO i1 i2 : Addr} (D : ZipApart z TI TO i1 i2 a b) :
    Turn P w K (.Tuple elts kk tpos) (ItzM K a b) [z, TI, TO, i1, i2] z (ZipM a b z TI TO i1 i2) where
  mem := by simp
  obj := fun i h S => S.has
  keep := fun i h h' S k => S.move k
  item := by
    rintro X rfl rfl rfl hc i pins s σ H E I hf S ⟨xs, ys, x, y, hqx, hqy, hx, hy⟩
    obtain ⟨its, rv, p, _⟩ := I.tuple hqx
    obtain ⟨its2, rv2, p2, _⟩ := I.list hqy
    obtain ⟨u0, hu0, ru⟩ := rv.get hx
    obtain ⟨v0, hv0, rw2⟩ := rv2.get hy
    obtain ⟨c1, c2, eo⟩ := S.out
    have hh : X.A.in1.handled = none := I.ok.hd hc
    have l1 : i < its.toArray.size := by have := (List.getElem?_eq_some_iff.mp hu0).1; simpa using this
    have l2 : i < its2.toArray.size := by have := (List.getElem?_eq_some_iff.mp hv0).1; simpa using this
    refine wpAny_pyNext_zipD2_item (sep_of D) (Draws.tuple hh i1 a D.l1i1 its.toArray) (Draws.list hh i2 b D.l2i2 its2.toArray) S.zip S.ins eo ⟨S.one, p⟩ ⟨S.two, p2.isList⟩ l1 l2 fun u v h' tk hu hv z' TO' st1 st2 hT hsz hk => ?_
    obtain rfl : u0 = u := by have e : its.toArray[i]? = some u := hu; rw [List.getElem?_toArray, hu0] at e; exact Option.some.inj e
    obtain rfl : v0 = v := by have e : its2.toArray[i]? = some v := hv; rw [List.getElem?_toArray, hv0] at e; exact Option.some.inj e
    have zl : z < s.heap.objs.size := Heap.lt_size S.zip
    refine ⟨_, rfl, wpAny_letOwnedTupleGo_zip (s := { s with heap := h', toks := tk }) z' fun g z2 sb => ?_⟩
    have keep : ∀ c, c ≠ z → ∀ o, h'.get? c = some o → g.get? c = some o := fun c hcz o e => (sb.2 c hcz).trans e
    have gT : g.get? s.heap.objs.size = some { cls := .type "tuple", data := .seq #[u0, v0] } := keep _ (Nat.ne_of_gt zl) _ hT
    have new : ObjOk X.prog X.w (upd H s.heap.objs.size (.tup [x, y])) g s.heap.objs.size (.tup [x, y]) :=
      ⟨by show 2 ≤ sizeLine; decide, [u0, v0], .cons ru (.cons rw2 .nil), ⟨_, gT, rfl, _, rfl⟩⟩
    have J : Inv X pins σ (upd H s.heap.objs.size (.tup [x, y])) { s with heap := g, toks := tk } :=
      I.turnedNew (t' := tk) (ch := [z, TI, TO, i1, i2]) (fun c o hb e => by
        have n : c ≠ z ∧ c ≠ TO ∧ c ≠ i1 ∧ c ≠ i2 := ⟨fun q => hb (by simp [q]), fun q => hb (by simp [q]), fun q => hb (by simp [q]), fun q => hb (by simp [q])⟩
        exact keep c n.1 o (hk c o n.1 n.2.1 n.2.2.1 n.2.2.2 e)) hf (Nat.le_refl _) new
    refine ⟨.ref s.heap.objs.size, _, J, rfl, ⟨_, x, y, rfl, I.hok.fresh (Nat.le_refl _), rfl, fun l hl => by rw [I.tuple_inj hl hqx]; exact hx, fun l hl => by rw [I.list_inj hl hqy]; exact hy⟩, ⟨z2, ?_, ⟨u0, v0, keep _ D.TOz _ TO'⟩, st1.1.at fun o e => keep _ D.i1z o e, st2.1.at fun o e => keep _ D.i2z o e⟩, fun c hcm => ?_⟩
    · exact keep _ D.TIz _ (hk _ _ D.TIz D.TITO D.TIi1 D.TIi2 S.ins)
    · obtain ⟨o, e, _⟩ := S.has c hcm
      rw [upd_ne (Nat.ne_of_lt (Heap.lt_size e))]
      exact (hf c hcm).1
  done := by
    rintro X rfl rfl rfl hc i pins s σ H E I hf S ⟨xs, ys, hqx, hqy, le1, le2, hend⟩
    obtain ⟨its, rv, p, _⟩ := I.tuple hqx
    obtain ⟨its2, rv2, p2, _⟩ := I.list hqy
    obtain ⟨c1, c2, eo⟩ := S.out
    have hh : X.A.in1.handled = none := I.ok.hd hc
    have n1 := rv.length
    have n2 := rv2.length
    have s1 : its.toArray.size = its.length := by simp
    have s2 : its2.toArray.size = its2.length := by simp
    refine wpAny_pyNext_zipD2_end (sep_of D) (Draws.tuple hh i1 a D.l1i1 its.toArray) (Draws.list hh i2 b D.l2i2 its2.toArray) S.zip S.ins eo ⟨S.one, p⟩ ⟨S.two, p2.isList⟩ (by omega) (by omega) (by omega) fun h' tk hk => ⟨rfl, I.turnedL (t' := tk) (ch := [z, TI, TO, i1, i2]) (fun c o hb e => ?_) hf⟩
    exact hk c o (fun q => hb (by simp [q])) (fun q => hb (by simp [q])) (fun q => hb (by simp [q])) (fun q => hb (by simp [q])) e
  self := fun A i s Q E S h => wpAny_pyIter_zip S.zip h
def iZipM (K : PySem.W.Frag) (ta : TA) : TI := fun σ H R => ta σ H fun vs H1 => ∃ a b xs ys, vs = [.ref a, .ref b] ∧ SqT K H1 a xs ∧ SqL K H1 b ys ∧ R (ItzM K a b) H1
theorem pi_zipM {X : Cx} {e e2 : Expr} {ta : TA} {p pos tpos : Pos} {elts : List Expr} {kk : Nat} (hg : Gl X "zip") (hm : X.mg "zip" = none) (ha : PA X [e, e2] ta)
    (hs : starEach [e, e2] X.env = (false, eval e X.env) :: starEach [e2] X.env := by rfl) (hpl : (backTo pos (starEach [e2] X.env)).any (·.1) = false := by rfl) :
    PI X (.Tuple elts kk tpos) (.Call (.Name "zip" p) [e, e2] [] pos) (iZipM X.K ta) := by
  refine ⟨fun pins s σ H R I h => Call_ (ld_blt I hg hm PyProof.Rows.boot_zip (PyProof.Rows.callWith_type1 (thn (ha.run pos pins s σ H _ I h) fun us s1 ⟨vs, H1, I1, r1, a, b, xs, ys, ex, hqx, hqy, q⟩ => ?_) hs hpl))⟩
  subst ex
  obtain ⟨ua, ub, rfl, ra, rb⟩ := vals2 r1
  obtain rfl : ua = Value.ref a := ra
  obtain rfl : ub = Value.ref b := rb
  obtain ⟨its, rv, p1, _⟩ := I1.tuple hqx
  obtain ⟨its2, rv2, p2, _⟩ := I1.list hqy
  obtain ⟨oa, ea, _⟩ := id p1
  have N : ∀ c ∈ [s1.heap.objs.size + 4, s1.heap.objs.size + 2, s1.heap.objs.size + 3, s1.heap.objs.size, s1.heap.objs.size + 1], s1.heap.objs.size ≤ c := fun c hc => by
    rcases five.mp hc with rfl | rfl | rfl | rfl | rfl
    · exact Nat.le_add_right _ _
    · exact Nat.le_add_right _ _
    · exact Nat.le_add_right _ _
    · exact Nat.le_refl _
    · exact Nat.le_add_right _ _
  refine zip_begins2 (begins_tuple a its.toArray) (begins_list b its2.toArray) p1 p2.isList fun h' hz hTI hTO g1 g2 hsz hk => wpAny_pyIter_zip hz ?_
  exact ⟨s1.heap.objs.size + 4, [s1.heap.objs.size + 4, s1.heap.objs.size + 2, s1.heap.objs.size + 3, s1.heap.objs.size, s1.heap.objs.size + 1], _, _, H1, rfl, I1.kept (t' := s1.toks) hk,
    turn_zipM (PySem.W.ktu_apart s1.heap.objs.size a b (Heap.lt_size ea) p2.lt), ⟨hz, hTI, ⟨_, _, hTO⟩, ⟨_, g1, rfl, rfl⟩, ⟨_, g2, rfl, rfl⟩⟩, fun c hc => I1.fpOk (N c hc) (I1.hok.fresh (N c hc)), q⟩
/-- as many turns as the shorter has -/
theorem walk_zipM {K : PySem.W.Frag} {a b : Addr} {xs ys : List V} {n : Nat} (h1 : n ≤ xs.length) (h2 : n ≤ ys.length) (he : n = xs.length ∨ n = ys.length) : Walk (ItzM K a b) n (fun H => SqT K H a xs ∧ SqL K H b ys) (YPair (fun i => xs[i]?) (fun i => ys[i]?)) :=
  ⟨fun i _ hi q => ⟨xs, ys, xs[i]'(by omega), ys[i]'(by omega), q.1, q.2, by simp [show i < xs.length by omega], by simp [show i < ys.length by omega]⟩, fun _ q => ⟨xs, ys, q.1, q.2, h1, h2, he⟩,
    fun i H v H' _ q ⟨T, x, y, h1, h2, h3, h4, h5⟩ => ⟨T, x, y, h1, h2, h3, h4 xs q.1, h5 ys q.2⟩⟩
end L2

set_option linter.all false
/-! calendars: the mathematics -/
namespace CM
/-! ### periods -/
theorem per_mul {F : Nat → Bool} {h p : Nat} (H : ∀ n, h ≤ n → F (n + p) = F n) : ∀ k n, h ≤ n → F (n + p * k) = F n
  | 0, n, hn => by rw [Nat.mul_zero, Nat.add_zero]
  | k + 1, n, hn => by
    rw [Nat.mul_succ, ← Nat.add_assoc, H _ (by omega), per_mul H k n hn]
theorem per_from {F : Nat → Bool} {h p q N : Nat} (hp : 0 < p) (H : ∀ n, h ≤ n → F (n + p) = F n) (Hq : ∀ n, N ≤ n → F (n + q) = F n) : ∀ n, h ≤ n → F (n + q) = F n := by
  intro n hn
  have a := per_mul H N (n + q) (by omega)
  have b := per_mul H N n hn
  have hN : N ≤ p * N := Nat.le_mul_of_pos_left N hp
  have c := Hq (n + p * N) (by omega)
  rw [← a, ← b, ← c]
  congr 1
  omega
theorem per_mod {F : Nat → Bool} {h a b : Nat} (ha : ∀ n, h ≤ n → F (n + a) = F n) (hb : ∀ n, h ≤ n → F (n + b) = F n) : ∀ n, h ≤ n → F (n + b % a) = F n := by
  intro n hn
  have e := per_mul ha (b / a) (n + b % a) (by omega)
  rw [← e, ← hb n hn]
  congr 1
  have := Nat.mod_add_div b a
  omega
theorem per_gcd {F : Nat → Bool} {h : Nat} : ∀ a b : Nat, (∀ n, h ≤ n → F (n + a) = F n) → (∀ n, h ≤ n → F (n + b) = F n) → ∀ n, h ≤ n → F (n + Nat.gcd a b) = F n := by
  intro a b
  induction a, b using Nat.gcd.induction with
  | H0 b => intro _ hb; rw [Nat.gcd_zero_left]; exact hb
  | H1 a b hpos ih => intro ha hb; rw [Nat.gcd_rec]; exact ih (per_mod ha hb) ha
/-- h and p tell F in the least way -/
structure Least (F : Nat → Bool) (h p : Nat) : Prop where
  pos : 0 < p
  per : ∀ n, h ≤ n → F (n + p) = F n
  min : ∀ q N, 0 < q → (∀ n, N ≤ n → F (n + q) = F n) → p ≤ q
  first : h = 0 ∨ F (h - 1 + p) ≠ F (h - 1)
theorem Least.uniq {F : Nat → Bool} {h p h' p' : Nat} (L : Least F h p) (L' : Least F h' p') : h = h' ∧ p = p' := by
  have e : p = p' := Nat.le_antisymm (L.min _ _ L'.pos L'.per) (L'.min _ _ L.pos L.per)
  subst e
  refine ⟨?_, rfl⟩
  have one : ∀ {a b : Nat}, Least F a p → Least F b p → ¬ a < b := fun {a b} A B lt => by
    rcases B.first with z | z
    · omega
    · exact z (A.per _ (by omega))
  have := one L L'
  have := one L' L
  omega
/-- it is enough to be less than the divisors of one period -/
theorem least_of {F : Nat → Bool} {h p R N : Nat} (hp : 0 < p) (per : ∀ n, h ≤ n → F (n + p) = F n) (hR : 0 < R) (perR : ∀ n, N ≤ n → F (n + R) = F n)
    (mn : ∀ q, 0 < q → q ∣ R → (∀ n, N ≤ n → F (n + q) = F n) → p ≤ q) (first : h = 0 ∨ F (h - 1 + p) ≠ F (h - 1)) : Least F h p := by
  refine ⟨hp, per, fun q M hq H => ?_, first⟩
  have hq1 := per_from hR perR H
  have g := per_gcd q R hq1 perR
  have gp : 0 < Nat.gcd q R := Nat.gcd_pos_of_pos_left _ hq
  exact Nat.le_trans (mn _ gp (Nat.gcd_dvd_right _ _) g) (Nat.le_of_dvd hq (Nat.gcd_dvd_left _ _))
/-! ### lists that ascend -/
def Asc (l : List Int) : Prop := l.Pairwise (· < ·)
theorem asc_eq : ∀ {l m : List Int}, Asc l → Asc m → (∀ x, x ∈ l ↔ x ∈ m) → l = m
  | [], [], _, _, _ => rfl
  | [], y :: m, _, _, h => absurd ((h y).mpr List.mem_cons_self) (by simp)
  | x :: l, [], _, _, h => absurd ((h x).mp List.mem_cons_self) (by simp)
  | x :: l, y :: m, hl, hm, h => by
    obtain ⟨h1, h2⟩ := List.pairwise_cons.mp hl
    obtain ⟨h3, h4⟩ := List.pairwise_cons.mp hm
    have hxy : x = y := by
      rcases List.mem_cons.mp ((h x).mp List.mem_cons_self) with z | z
      · exact z
      · rcases List.mem_cons.mp ((h y).mpr List.mem_cons_self) with w | w
        · exact w.symm
        · have a := h3 x z
          have b := h1 y w
          omega
    subst hxy
    congr 1
    refine asc_eq h2 h4 fun z => ⟨fun hz => ?_, fun hz => ?_⟩
    · rcases List.mem_cons.mp ((h z).mp (List.mem_cons_of_mem _ hz)) with w | w
      · have := h1 z hz; omega
      · exact w
    · rcases List.mem_cons.mp ((h z).mpr (List.mem_cons_of_mem _ hz)) with w | w
      · have := h3 z hz; omega
      · exact w
def trues (G : Nat → Bool) (n : Nat) : List Int := ((List.range n).filter G).map fun k : Nat => (k : Int)
theorem trues_asc (G : Nat → Bool) (n : Nat) : Asc (trues G n) := by
  unfold trues Asc
  rw [List.pairwise_map]
  refine List.Pairwise.imp (R := fun a b : Nat => a < b) (fun h => by omega) ?_
  exact List.Pairwise.filter _ List.pairwise_lt_range
theorem mem_trues {G : Nat → Bool} {n : Nat} {x : Int} : x ∈ trues G n ↔ ∃ k : Nat, x = (k : Int) ∧ k < n ∧ G k = true := by
  unfold trues
  rw [List.mem_map]
  constructor
  · rintro ⟨k, hk, rfl⟩
    rw [List.mem_filter, List.mem_range] at hk
    exact ⟨k, rfl, hk.1, hk.2⟩
  · rintro ⟨k, rfl, h1, h2⟩
    exact ⟨k, by rw [List.mem_filter, List.mem_range]; exact ⟨h1, h2⟩, rfl⟩
theorem trues_congr {G G' : Nat → Bool} {n : Nat} (h : ∀ k, k < n → G k = G' k) : trues G n = trues G' n := by
  unfold trues
  congr 1
  refine List.filter_congr fun k hk => ?_
  exact h k (List.mem_range.mp hk)
theorem trues_len (G : Nat → Bool) (n : Nat) : (trues G n).length ≤ n := by
  unfold trues
  rw [List.length_map]
  exact Nat.le_trans (List.length_filter_le _ _) (by simp)
theorem trues_succ (G : Nat → Bool) (n : Nat) : trues G (n + 1) = trues G n ++ (if G n = true then [(n : Int)] else []) := by
  unfold trues
  rw [List.range_succ, List.filter_append, List.map_append]
  congr 1
  by_cases h : G n = true
  · simp [h]
  · simp [h]
/-! ### calendars -/
structure Cal where
  es : List Int
  h : Int
  p : Int
  fs : List Int
def mkCal (F : Nat → Bool) (h p : Nat) : Cal := ⟨trues F h, h, p, trues (fun k => F (h + k)) p⟩
/-- whether a number is in it -/
def Cal.has (c : Cal) (n : Nat) : Bool := if (n : Int) < c.h then decide ((n : Int) ∈ c.es) else decide (((n : Int) - c.h) % c.p ∈ c.fs)
structure WF (c : Cal) : Prop where
  h0 : 0 ≤ c.h
  p1 : 1 ≤ c.p
  ea : Asc c.es
  er : ∀ x ∈ c.es, 0 ≤ x ∧ x < c.h
  fa : Asc c.fs
  fr : ∀ x ∈ c.fs, 0 ≤ x ∧ x < c.p
def Good (c : Cal) : Prop := WF c ∧ Least c.has c.h.toNat c.p.toNat
theorem WF.make {c : Cal} (w : WF c) : c = mkCal c.has c.h.toNat c.p.toNat := by
  obtain ⟨h0, p1, ea, er, fa, fr⟩ := w
  obtain ⟨es, h, p, fs⟩ := c
  simp only at *
  have e1 : es = trues (Cal.has ⟨es, h, p, fs⟩) h.toNat := asc_eq ea (trues_asc _ _) fun x => by
    rw [mem_trues]
    constructor
    · intro hx
      obtain ⟨a, b⟩ := er x hx
      refine ⟨x.toNat, by omega, by omega, ?_⟩
      unfold Cal.has
      simp only
      rw [if_pos (by omega), decide_eq_true_eq, Int.toNat_of_nonneg a]
      exact hx
    · rintro ⟨k, rfl, h1, h2⟩
      unfold Cal.has at h2
      simp only at h2
      rw [if_pos (by omega), decide_eq_true_eq] at h2
      exact h2
  have e2 : fs = trues (fun k => Cal.has ⟨es, h, p, fs⟩ (h.toNat + k)) p.toNat := asc_eq fa (trues_asc _ _) fun x => by
    rw [mem_trues]
    constructor
    · intro hx
      obtain ⟨a, b⟩ := fr x hx
      refine ⟨x.toNat, by omega, by omega, ?_⟩
      unfold Cal.has
      simp only
      rw [if_neg (by omega), decide_eq_true_eq]
      have e : ((h.toNat + x.toNat : Nat) : Int) - h = x := by omega
      rw [e, Int.emod_eq_of_lt a b]
      exact hx
    · rintro ⟨k, rfl, h1, h2⟩
      unfold Cal.has at h2
      simp only at h2
      rw [if_neg (by omega), decide_eq_true_eq] at h2
      have e : ((h.toNat + k : Nat) : Int) - h = (k : Int) := by omega
      rw [e, Int.emod_eq_of_lt (by omega) (by omega)] at h2
      exact h2
  unfold mkCal
  rw [← e1, ← e2]
  congr 1 <;> omega
theorem wf_mk {F : Nat → Bool} {h p : Nat} (hp : 0 < p) : WF (mkCal F h p) where
  h0 := Int.natCast_nonneg _
  p1 := by show (1 : Int) ≤ (p : Int); omega
  ea := trues_asc _ _
  er := fun x hx => by
    obtain ⟨k, rfl, h1, _⟩ := mem_trues.mp hx
    show (0 : Int) ≤ (k : Int) ∧ (k : Int) < (h : Int)
    omega
  fa := trues_asc _ _
  fr := fun x hx => by
    obtain ⟨k, rfl, h1, _⟩ := mem_trues.mp hx
    show (0 : Int) ≤ (k : Int) ∧ (k : Int) < (p : Int)
    omega
/-- a sequence that comes round from h on is had by what is told of it -/
theorem has_mk {F : Nat → Bool} {h p : Nat} (hp : 0 < p) (per : ∀ n, h ≤ n → F (n + p) = F n) (n : Nat) : (mkCal F h p).has n = F n := by
  unfold Cal.has
  show (if (n : Int) < (h : Int) then decide ((n : Int) ∈ trues F h) else decide (((n : Int) - (h : Int)) % (p : Int) ∈ trues (fun k => F (h + k)) p)) = F n
  by_cases hn : n < h
  · rw [if_pos (by omega)]
    cases q : F n with
    | true => exact decide_eq_true (mem_trues.mpr ⟨n, rfl, hn, q⟩)
    | false =>
      refine decide_eq_false fun z => ?_
      obtain ⟨k, e, _, z2⟩ := mem_trues.mp z
      have : n = k := by omega
      rw [← this, q] at z2
      cases z2
  · rw [if_neg (by omega)]
    have e : ((n : Int) - (h : Int)) % (p : Int) = (((n - h) % p : Nat) : Int) := by
      have : (n : Int) - (h : Int) = ((n - h : Nat) : Int) := by omega
      rw [this]
      exact (Int.natCast_emod _ _).symm
    rw [e]
    have back : F (h + (n - h) % p) = F n := by
      have z := per_mul per ((n - h) / p) (h + (n - h) % p) (by omega)
      rw [← z]
      congr 1
      have := Nat.mod_add_div (n - h) p
      omega
    cases q : F n with
    | true => exact decide_eq_true (mem_trues.mpr ⟨_, rfl, Nat.mod_lt _ hp, by rw [back, q]⟩)
    | false =>
      refine decide_eq_false fun z => ?_
      obtain ⟨k, e2, _, z2⟩ := mem_trues.mp z
      have : (n - h) % p = k := by omega
      rw [← this, back, q] at z2
      cases z2
theorem WF.per {c : Cal} (w : WF c) : ∀ n, c.h.toNat ≤ n → c.has (n + c.p.toNat) = c.has n := by
  intro n hn
  have h0 := w.h0
  have p1 := w.p1
  unfold Cal.has
  rw [if_neg (by omega), if_neg (by omega)]
  have e : ((n + c.p.toNat : Nat) : Int) - c.h = ((n : Int) - c.h) + c.p := by omega
  rw [e, Int.add_emod_right]
theorem good_mk {F : Nat → Bool} {h p : Nat} (L : Least F h p) : Good (mkCal F h p) := by
  refine ⟨wf_mk L.pos, ?_⟩
  have e : (mkCal F h p).has = F := funext fun n => has_mk L.pos L.per n
  rw [e]
  show Least F (h : Int).toNat (p : Int).toNat
  simpa using L
/-- what is told of a good calendar's numbers in the least way is it -/
theorem good_iff {c : Cal} (w : WF c) {h p : Nat} (L : Least c.has h p) : mkCal c.has h p = c ↔ Good c := by
  constructor
  · intro e
    rw [← e]
    exact good_mk L
  · rintro ⟨_, L'⟩
    obtain ⟨e1, e2⟩ := L.uniq L'
    rw [e1, e2]
    exact w.make.symm
end CM

set_option linter.all false
namespace CM
/-! ### what the statement finds of a list of truths -/
def seqF (lots : List Bool) (b : Nat) (n : Nat) : Bool := if n < b then lots.getD n false else lots.getD (b + (n - b) % (lots.length - b)) false
theorem seqF_per {lots : List Bool} {b : Nat} (n : Nat) (hn : b ≤ n) : seqF lots b (n + (lots.length - b)) = seqF lots b n := by
  unfold seqF
  rw [if_neg (by omega), if_neg (by omega)]
  have e : n + (lots.length - b) - b = (n - b) + (lots.length - b) := by omega
  rw [e, Nat.add_mod_right]
theorem seqF_at {lots : List Bool} {b i : Nat} (hi : i < lots.length) : seqF lots b i = lots.getD i false := by
  unfold seqF
  by_cases h : i < b
  · rw [if_pos h]
  · rw [if_neg h, Nat.mod_eq_of_lt (by omega)]
    congr 1
    omega
/-- the ring's test by a divisor -/
theorem ring_iff {F : Nat → Bool} {b R d : Nat} (hR : 0 < R) (perR : ∀ n, b ≤ n → F (n + R) = F n) : (∀ s, s < R → F (b + s) = F (b + (s + d) % R)) ↔ ∀ n, b ≤ n → F (n + d) = F n := by
  have back : ∀ m, F (b + m % R) = F (b + m) := fun m => by
    have z := per_mul perR (m / R) (b + m % R) (by omega)
    rw [← z]
    congr 1
    have := Nat.mod_add_div m R
    omega
  constructor
  · intro h n hn
    have z := h ((n - b) % R) (Nat.mod_lt _ hR)
    rw [back, back] at z
    have e1 : b + (n - b) = n := by omega
    rw [e1] at z
    rw [z]
    have e2 := back ((n - b) + d)
    have e3 := back ((n - b) % R + d)
    rw [Nat.mod_add_mod] at e3
    rw [← e3, e2]
    congr 1
    omega
  · intro h s hs
    rw [back, ← Nat.add_assoc, h _ (by omega)]
theorem line_iff {F : Nat → Bool} {b h p : Nat} (hb : h ≤ b) (per : ∀ n, b ≤ n → F (n + p) = F n) : (∀ s, s < b - h + p → F (h + s) = F (h + (s + p))) ↔ ∀ n, h ≤ n → F (n + p) = F n := by
  constructor
  · intro z n hn
    by_cases hc : n < b
    · have y := z (n - h) (by omega)
      have e1 : h + (n - h) = n := by omega
      have e2 : h + (n - h + p) = n + p := by omega
      rw [e1, e2] at y
      exact y.symm
    · exact per n (by omega)
  · intro z s hs
    rw [← Nat.add_assoc]
    exact (z (h + s) (by omega)).symm
theorem law_least {F : Nat → Bool} {b R h p : Nat} (hR : 0 < R) (perR : ∀ n, b ≤ n → F (n + R) = F n) (hp : 0 < p) (hh : h ≤ b)
    (per : ∀ n, b ≤ n → F (n + p) = F n) (mn : ∀ q, 0 < q → q ∣ R → q < p → ¬ ∀ n, b ≤ n → F (n + q) = F n)
    (ph : ∀ n, h ≤ n → F (n + p) = F n) (fst : ∀ g, g < h → ¬ ∀ n, g ≤ n → F (n + p) = F n) : Least F h p := by
  refine least_of hp ph hR perR (fun q hq hd H => ?_) ?_
  · by_cases lt : q < p
    · exact absurd H (mn q hq hd lt)
    · omega
  · by_cases z : h = 0
    · exact .inl z
    · refine .inr fun e => fst (h - 1) (by omega) fun n hn => ?_
      by_cases hc : n = h - 1
      · rw [hc]; exact e
      · exact ph n (by omega)
/-! ### rests that come again -/
def Again (fs : List Int) (p s : Int) : Prop := ∀ x : Int, 0 ≤ x → x < p → ((x + s) % p ∈ fs ↔ x ∈ fs)
theorem emod_inj {p s x y : Int} (hp : 0 < p) (hx : 0 ≤ x ∧ x < p) (hy : 0 ≤ y ∧ y < p) (e : (x + s) % p = (y + s) % p) : x = y := by
  have z : (x + s - (y + s)) % p = 0 := Int.emod_eq_emod_iff_emod_sub_eq_zero.mp e
  have e2 : x + s - (y + s) = x - y := by omega
  rw [e2] at z
  have d := Int.dvd_of_emod_eq_zero z
  obtain ⟨k, hk⟩ := d
  have k0 : k = 0 := by
    rcases Int.lt_trichotomy k 0 with h | h | h
    · exfalso
      have : p * k ≤ p * (-1) := Int.mul_le_mul_of_nonneg_left (by omega) (by omega)
      omega
    · exact h
    · exfalso
      have : p * 1 ≤ p * k := Int.mul_le_mul_of_nonneg_left (by omega) (by omega)
      omega
  rw [k0, Int.mul_zero] at hk
  omega
theorem sorted_again {fs S : List Int} {p s : Int} (hp : 0 < p) (fa : Asc fs) (fr : ∀ x ∈ fs, 0 ≤ x ∧ x < p) (perm : S.Perm (fs.map fun r => (r + s) % p)) (so : S.Pairwise (· ≤ ·)) : S = fs ↔ Again fs p s := by
  have memS : ∀ x, x ∈ S ↔ ∃ r ∈ fs, (r + s) % p = x := fun x => by
    rw [perm.mem_iff, List.mem_map]
  constructor
  · intro e x h0 h1
    constructor
    · intro hx
      rw [← e] at hx
      obtain ⟨r, hr, er⟩ := (memS _).mp hx
      rw [← emod_inj hp (fr r hr) ⟨h0, h1⟩ er]
      exact hr
    · intro hx
      rw [← e]
      exact (memS _).mpr ⟨x, hx, rfl⟩
  · intro ag
    have nd : S.Nodup := by
      refine perm.nodup_iff.mpr ?_
      unfold List.Nodup
      rw [List.pairwise_map]
      refine List.Pairwise.imp_of_mem (R := fun a b : Int => a < b) (fun {a b} ha hb hab e => ?_) fa
      have := emod_inj hp (fr a ha) (fr b hb) e
      omega
    have sa : Asc S := by
      have := List.Pairwise.and so nd
      exact List.Pairwise.imp (fun {a b} h => by omega) this
    refine asc_eq sa fa fun x => ?_
    rw [memS]
    constructor
    · rintro ⟨r, hr, rfl⟩
      obtain ⟨a, b⟩ := fr r hr
      exact (ag r a b).mpr hr
    · intro hx
      obtain ⟨a, b⟩ := fr x hx
      have c := Int.emod_nonneg (x - s) (show p ≠ 0 by omega)
      have d := Int.emod_lt_of_pos (x - s) hp
      have e : ((x - s) % p + s) % p = x := by
        rw [Int.emod_add_emod, Int.sub_add_cancel, Int.emod_eq_of_lt a b]
      refine ⟨(x - s) % p, (ag _ c d).mp (by rw [e]; exact hx), e⟩
theorem again_iff {c : Cal} (w : WF c) (s : Nat) : Again c.fs c.p s ↔ ∀ n, c.h.toNat ≤ n → c.has (n + s) = c.has n := by
  have h0 := w.h0
  have p1 := w.p1
  have hs : ∀ n : Nat, c.h.toNat ≤ n → c.has n = decide (((n : Int) - c.h) % c.p ∈ c.fs) := fun n hn => by
    unfold Cal.has
    rw [if_neg (by omega)]
  constructor
  · intro ag n hn
    rw [hs _ hn, hs _ (by omega)]
    have a := Int.emod_nonneg ((n : Int) - c.h) (show c.p ≠ 0 by omega)
    have b := Int.emod_lt_of_pos ((n : Int) - c.h) (show 0 < c.p by omega)
    have z := ag _ a b
    rw [Int.emod_add_emod] at z
    have e : ((n + s : Nat) : Int) - c.h = (n : Int) - c.h + s := by omega
    rw [e]
    exact decide_eq_decide.mpr z
  · intro H x hx0 hx1
    have z := H (c.h.toNat + x.toNat) (by omega)
    rw [hs _ (by omega), hs _ (by omega)] at z
    have e1 : ((c.h.toNat + x.toNat + s : Nat) : Int) - c.h = x + s := by omega
    have e2 : ((c.h.toNat + x.toNat : Nat) : Int) - c.h = x := by omega
    rw [e1, e2, Int.emod_eq_of_lt hx0 hx1] at z
    exact decide_eq_decide.mp z
/-! ### primes -/
def PrimeN (p : Nat) : Prop := 1 < p ∧ ∀ d, d ∣ p → d = 1 ∨ d = p
def prodL : List Nat → Nat
  | [] => 1
  | p :: ps => p * prodL ps
theorem prodL_append : ∀ a b : List Nat, prodL (a ++ b) = prodL a * prodL b
  | [], b => by simp [prodL]
  | x :: a, b => by
    rw [List.cons_append]
    simp only [prodL]
    rw [prodL_append a b, Nat.mul_assoc]
theorem prime_cop {P e : Nat} (hP : PrimeN P) (h : ¬ P ∣ e) : Nat.Coprime e P := by
  rcases hP.2 _ (Nat.gcd_dvd_right e P) with z | z
  · exact z
  · exact absurd (by rw [← z]; exact Nat.gcd_dvd_left e P) h
theorem common_prime : ∀ {ps : List Nat} {e : Nat}, (∀ p ∈ ps, PrimeN p) → e ∣ prodL ps → 1 < e → ∃ P ∈ ps, P ∣ e
  | [], e, _, hd, he => by
    have := Nat.le_of_dvd (by decide) hd
    simp only [prodL] at this
    omega
  | P :: ps, e, hp, hd, he => by
    by_cases h : P ∣ e
    · exact ⟨P, List.mem_cons_self, h⟩
    · have c := prime_cop (hp P List.mem_cons_self) h
      have := c.dvd_of_dvd_mul_left hd
      obtain ⟨Q, q1, q2⟩ := common_prime (fun p z => hp p (List.mem_cons_of_mem _ z)) this he
      exact ⟨Q, List.mem_cons_of_mem _ q1, q2⟩
theorem prime_dvd_prod : ∀ {ps : List Nat} {P : Nat}, P ∈ ps → P ∣ prodL ps
  | [], _, h => nomatch h
  | Q :: ps, P, h => by
    rcases List.mem_cons.mp h with z | z
    · rw [z]; exact Nat.dvd_mul_right _ _
    · exact Nat.dvd_trans (prime_dvd_prod z) (Nat.dvd_mul_left _ _)
/-- on the way of finding them -/
structure Sieve (n0 : Nat) (found : List Nat) (f n : Nat) : Prop where
  prod : prodL found * n = n0
  prime : ∀ p ∈ found, PrimeN p
  pos : 0 < n
  two : 2 ≤ f
  none : ∀ d, 2 ≤ d → d < f → ¬ d ∣ n
theorem Sieve.start {n : Nat} (h : 0 < n) : Sieve n [] 2 n := ⟨by simp [prodL], (fun _ z => nomatch z), h, Nat.le_refl _, fun d a b => by omega⟩
theorem Sieve.take {n0 f n : Nat} {found : List Nat} (S : Sieve n0 found f n) (h : f ∣ n) : Sieve n0 (found ++ [f]) f (n / f) ∧ n / f < n := by
  have h2 := S.two
  obtain ⟨k, hk⟩ := h
  have e : n / f = k := by rw [hk]; exact Nat.mul_div_cancel_left _ (by omega)
  have kp : 0 < k := by
    rcases Nat.eq_zero_or_pos k with z | z
    · have := S.pos
      rw [hk, z] at this
      omega
    · exact z
  rw [e]
  refine ⟨⟨?_, fun p hp => ?_, kp, S.two, fun d a b c => S.none d a b (by rw [hk]; exact Nat.dvd_trans c (Nat.dvd_mul_left _ _))⟩, ?_⟩
  · rw [prodL_append]
    simp only [prodL]
    rw [← S.prod, hk, Nat.mul_one, Nat.mul_assoc]
  · rcases List.mem_append.mp hp with z | z
    · exact S.prime p z
    · rcases List.mem_singleton.mp z with rfl
      refine ⟨by omega, fun d hd => ?_⟩
      have dp : 0 < d := Nat.pos_of_dvd_of_pos hd (by omega)
      have dl := Nat.le_of_dvd (by omega) hd
      by_cases d1 : d = 1
      · exact .inl d1
      · by_cases d2 : d = p
        · exact .inr d2
        · exact absurd (Nat.dvd_trans hd (by rw [hk]; exact Nat.dvd_mul_right _ _)) (S.none d (by omega) (by omega))
  · rw [hk]
    have : 2 * k ≤ f * k := Nat.mul_le_mul_right _ h2
    omega
theorem Sieve.step {n0 f n : Nat} {found : List Nat} (S : Sieve n0 found f n) (h : ¬ f ∣ n) : Sieve n0 found (f + 1) n := ⟨S.prod, S.prime, S.pos, by have := S.two; omega, fun d a b c => by
  by_cases e : d = f
  · rw [e] at c; exact h c
  · exact S.none d a (by omega) c⟩
theorem Sieve.last {n0 f n : Nat} {found : List Nat} (S : Sieve n0 found f n) (h : n < f * f) (h1 : 1 < n) : PrimeN n := by
  refine ⟨h1, fun d hd => ?_⟩
  obtain ⟨k, hk⟩ := hd
  have dp : 0 < d := Nat.pos_of_ne_zero fun z => by rw [z, Nat.zero_mul] at hk; omega
  have kp : 0 < k := Nat.pos_of_ne_zero fun z => by rw [z, Nat.mul_zero] at hk; omega
  by_cases d1 : d = 1
  · exact .inl d1
  · by_cases k1 : k = 1
    · right; rw [hk, k1, Nat.mul_one]
    · exfalso
      have a : f ≤ d := by
        by_cases lt : d < f
        · exact absurd ⟨k, hk⟩ (S.none d (by omega) lt)
        · omega
      have b : f ≤ k := by
        by_cases lt : k < f
        · exact absurd ⟨d, by rw [hk, Nat.mul_comm]⟩ (S.none k (by omega) lt)
        · omega
      have := Nat.mul_le_mul a b
      omega
structure PrimesOf (ps : List Nat) (n : Nat) : Prop where
  prime : ∀ p ∈ ps, PrimeN p
  prod : prodL ps = n
theorem Sieve.end_ {n0 f n : Nat} {found : List Nat} (S : Sieve n0 found f n) (h : n < f * f) : (1 < n → PrimesOf (found ++ [n]) n0) ∧ (¬ 1 < n → PrimesOf found n0) := by
  constructor
  · intro h1
    refine ⟨fun p hp => ?_, ?_⟩
    · rcases List.mem_append.mp hp with z | z
      · exact S.prime p z
      · rw [List.mem_singleton.mp z]; exact S.last h h1
    · rw [prodL_append]
      simp only [prodL]
      rw [Nat.mul_one, S.prod]
  · intro h1
    have e : n = 1 := by have := S.pos; omega
    refine ⟨S.prime, ?_⟩
    rw [← S.prod, e, Nat.mul_one]
end CM

set_option linter.all false
/-! tables over rests, and their least way (for the statements about forms) -/
namespace FM
open CM
/-! ### lots of numbers closed as periods are -/
structure Pers (Pd : Nat → Prop) : Prop where
  gcd : ∀ a b, Pd a → Pd b → Pd (Nat.gcd a b)
  mul : ∀ a k, Pd a → Pd (a * k)
structure RedP (Pd : Nat → Prop) (ps : List Nat) (m : Nat) : Prop where
  pos : 0 < m
  per : Pd m
  div : prodL ps ∣ m
  lst : ∀ q k, 0 < q → Pd q → m = q * k → k ∣ prodL ps
variable {Pd : Nat → Prop}
theorem RedP.start {ps : List Nat} {m : Nat} (h : 0 < m) (per : Pd m) (P : PrimesOf ps m) : RedP Pd ps m :=
  ⟨h, per, by rw [P.prod]; exact Nat.dvd_refl _, fun q k _ _ e => by rw [P.prod, e]; exact Nat.dvd_mul_left _ _⟩
theorem RedP.dvd {P : Nat} {ps : List Nat} {m : Nat} (R : RedP Pd (P :: ps) m) : P ∣ m := Nat.dvd_trans (Nat.dvd_mul_right _ _) R.div
theorem RedP.yes {P : Nat} {ps : List Nat} {m : Nat} (R : RedP Pd (P :: ps) m) (hP : PrimeN P) (per : Pd (m / P)) : RedP Pd ps (m / P) := by
  have P0 : 0 < P := by have := hP.1; omega
  obtain ⟨j, hj⟩ := R.dvd
  have e : m / P = j := by rw [hj]; exact Nat.mul_div_cancel_left _ P0
  have jp : 0 < j := Nat.pos_of_ne_zero fun z => by have := R.pos; rw [hj, z] at this; omega
  rw [e] at per ⊢
  refine ⟨jp, per, ?_, fun q k hq pq ek => ?_⟩
  · have d := R.div
    simp only [prodL] at d
    rw [hj] at d
    exact Nat.dvd_of_mul_dvd_mul_left P0 d
  · have d := R.lst q (P * k) hq pq (by rw [hj, ek, ← Nat.mul_assoc, ← Nat.mul_assoc, Nat.mul_comm P q])
    simp only [prodL] at d
    exact Nat.dvd_of_mul_dvd_mul_left P0 d
theorem RedP.no (hp : Pers Pd) {P : Nat} {ps : List Nat} {m : Nat} (R : RedP Pd (P :: ps) m) (hP : PrimeN P) (np : ¬ Pd (m / P)) : RedP Pd ps m := by
  have P0 : 0 < P := by have := hP.1; omega
  refine ⟨R.pos, R.per, Nat.dvd_trans (Nat.dvd_mul_left _ _) R.div, fun q k hq pq ek => ?_⟩
  have d := R.lst q k hq pq ek
  simp only [prodL] at d
  by_cases h : P ∣ k
  · exfalso
    obtain ⟨j, hj⟩ := h
    refine np ?_
    have e : m / P = q * j := by
      rw [ek, hj, ← Nat.mul_assoc, Nat.mul_comm q P, Nat.mul_assoc, Nat.mul_div_cancel_left _ P0]
    rw [e]
    exact hp.mul _ _ pq
  · exact (prime_cop hP h).dvd_of_dvd_mul_left d
theorem RedP.end_ (hp : Pers Pd) {m : Nat} (R : RedP Pd [] m) : ∀ q, 0 < q → Pd q → m ∣ q := by
  intro q hq pq
  have g := hp.gcd q m pq R.per
  have gp : 0 < Nat.gcd q m := Nat.gcd_pos_of_pos_left _ hq
  obtain ⟨k, hk⟩ := Nat.gcd_dvd_right q m
  have k1 : k = 1 := Nat.eq_one_of_dvd_one (R.lst _ k gp g hk)
  rw [k1, Nat.mul_one] at hk
  rw [hk]
  exact Nat.gcd_dvd_left _ _
/-! ### tables -/
def vol : List Nat → Nat
  | [] => 1
  | m :: ms => m * vol ms
def tab {α : Type} : List Nat → (List Nat → α) → List α
  | [], F => [F []]
  | m :: ms, F => (List.range m).flatMap fun a => tab ms fun r => F (a :: r)
def Rest : List Nat → List Nat → Prop
  | [], [] => True
  | m :: ms, a :: r => a < m ∧ Rest ms r
  | _, _ => False
def plc : List Nat → List Nat → Nat
  | _ :: ms, a :: r => a * vol ms + plc ms r
  | _, _ => 0
variable {α : Type}
theorem flat_len {n : Nat} {L : Nat → List α} (h : ∀ a, (L a).length = n) : ∀ m, ((List.range m).flatMap L).length = m * n
  | 0 => by simp
  | m + 1 => by rw [List.range_succ, List.flatMap_append, List.length_append, flat_len h m, Nat.succ_mul]; simp [h]
theorem flat_at {n : Nat} {L : Nat → List α} (h : ∀ a, (L a).length = n) : ∀ {m a i : Nat}, a < m → i < n → ((List.range m).flatMap L)[a * n + i]? = (L a)[i]?
  | 0, _, _, ha, _ => absurd ha (by omega)
  | m + 1, a, i, ha, hi => by
    rw [List.range_succ, List.flatMap_append]
    have l := flat_len h m
    by_cases e : a = m
    · subst e
      rw [List.getElem?_append_right (by omega), l]
      simp
    · have : (a + 1) * n ≤ m * n := Nat.mul_le_mul_right n (by omega)
      rw [Nat.succ_mul] at this
      rw [List.getElem?_append_left (by omega)]
      exact flat_at h (by omega) hi
theorem tab_len : ∀ (ms : List Nat) (F : List Nat → α), (tab ms F).length = vol ms
  | [], _ => rfl
  | m :: ms, F => flat_len (fun a => tab_len ms _) m
theorem plc_lt : ∀ {ms r : List Nat}, Rest ms r → plc ms r < vol ms
  | [], [], _ => Nat.zero_lt_one
  | m :: ms, a :: r, h => by
    have := plc_lt h.2
    have q : (a + 1) * vol ms ≤ m * vol ms := Nat.mul_le_mul_right _ h.1
    rw [Nat.succ_mul] at q
    simp only [plc, vol]
    omega
  | [], _ :: _, h => h.elim
  | _ :: _, [], h => h.elim
theorem tab_at : ∀ {ms r : List Nat} {F : List Nat → α}, Rest ms r → (tab ms F)[plc ms r]? = some (F r)
  | [], [], _, _ => rfl
  | m :: ms, a :: r, F, h => by
    show ((List.range m).flatMap fun a => tab ms fun r => F (a :: r))[a * vol ms + plc ms r]? = _
    rw [flat_at (n := vol ms) (fun a => tab_len ms _) h.1 (plc_lt h.2)]
    exact tab_at h.2
  | [], _ :: _, _, h => h.elim
  | _ :: _, [], _, h => h.elim
theorem plc_sur : ∀ {ms : List Nat} {i : Nat}, i < vol ms → ∃ r, Rest ms r ∧ plc ms r = i
  | [], i, h => ⟨[], trivial, by simp only [vol] at h; simp only [plc]; omega⟩
  | m :: ms, i, h => by
    simp only [vol] at h
    have v : 0 < vol ms := Nat.pos_of_ne_zero fun z => by rw [z] at h; simp at h
    obtain ⟨r, hr, e⟩ := plc_sur (Nat.mod_lt i v)
    refine ⟨i / vol ms :: r, ⟨Nat.div_lt_of_lt_mul (by rw [Nat.mul_comm]; exact h), hr⟩, ?_⟩
    simp only [plc]
    rw [e, Nat.mul_comm]
    exact Nat.div_add_mod i _
theorem tab_ext {ms : List Nat} {F G : List Nat → α} (h : ∀ r, Rest ms r → F r = G r) : tab ms F = tab ms G := by
  refine List.ext_getElem? fun i => ?_
  by_cases hi : i < vol ms
  · obtain ⟨r, hr, rfl⟩ := plc_sur hi
    rw [tab_at hr, tab_at hr, h r hr]
  · rw [List.getElem?_eq_none (by rw [tab_len]; omega), List.getElem?_eq_none (by rw [tab_len]; omega)]
theorem tab_inj {ms : List Nat} {F G : List Nat → α} (h : tab ms F = tab ms G) {r : List Nat} (hr : Rest ms r) : F r = G r := by
  have e := tab_at (F := F) hr
  rw [h, tab_at hr] at e
  exact (Option.some.inj e).symm
theorem tab_of {ms : List Nat} {p : List α} (h : p.length = vol ms) (d : α) : tab ms (fun r => p.getD (plc ms r) d) = p := by
  refine List.ext_getElem? fun i => ?_
  by_cases hi : i < vol ms
  · obtain ⟨r, hr, rfl⟩ := plc_sur hi
    rw [tab_at hr, List.getD_eq_getElem?_getD, List.getElem?_eq_getElem (by omega)]
    rfl
  · rw [List.getElem?_eq_none (by rw [tab_len]; omega), List.getElem?_eq_none (by omega)]
theorem rest_len : ∀ {ms r : List Nat}, Rest ms r → r.length = ms.length
  | [], [], _ => rfl
  | _ :: ms, _ :: r, h => congrArg Nat.succ (rest_len h.2)
  | [], _ :: _, h => h.elim
  | _ :: _, [], h => h.elim
theorem rest_app : ∀ {pre r1 suf r2 : List Nat}, Rest pre r1 → Rest suf r2 → Rest (pre ++ suf) (r1 ++ r2)
  | [], [], _, _, _, h => h
  | _ :: pre, _ :: r1, _, _, h, h2 => ⟨h.1, rest_app h.2 h2⟩
  | [], _ :: _, _, _, h, _ => h.elim
  | _ :: _, [], _, _, h, _ => h.elim
theorem rest_split : ∀ {pre suf r : List Nat}, Rest (pre ++ suf) r → ∃ r1 r2, r = r1 ++ r2 ∧ Rest pre r1 ∧ Rest suf r2
  | [], _, r, h => ⟨[], r, rfl, trivial, h⟩
  | m :: pre, suf, a :: r, h => by
    obtain ⟨r1, r2, rfl, h1, h2⟩ := rest_split h.2
    exact ⟨a :: r1, r2, rfl, ⟨h.1, h1⟩, h2⟩
  | _ :: _, _, [], h => h.elim
theorem vol_app : ∀ (pre suf : List Nat), vol (pre ++ suf) = vol pre * vol suf
  | [], _ => by simp [vol]
  | m :: pre, suf => by
    show m * vol (pre ++ suf) = m * vol pre * vol suf
    rw [vol_app pre suf, Nat.mul_assoc]
theorem plc_app : ∀ {pre r1 suf r2 : List Nat}, Rest pre r1 → plc (pre ++ suf) (r1 ++ r2) = plc pre r1 * vol suf + plc suf r2
  | [], [], _, _, _ => by simp [plc]
  | m :: pre, a :: r1, suf, r2, h => by
    show a * vol (pre ++ suf) + plc (pre ++ suf) (r1 ++ r2) = (a * vol pre + plc pre r1) * vol suf + plc suf r2
    rw [plc_app h.2, vol_app, Nat.add_mul, Nat.mul_assoc, Nat.add_assoc]
  | [], _ :: _, _, _, h => h.elim
  | _ :: _, [], _, _, h => h.elim
/-! ### one place of the rests -/
variable {pre suf : List Nat} {m : Nat} {F : List Nat → α}
theorem mid_at {r1 r2 : List Nat} {a : Nat} (h1 : Rest pre r1) (ha : a < m) (h2 : Rest suf r2) : (tab (pre ++ m :: suf) F)[plc pre r1 * (m * vol suf) + (a * vol suf + plc suf r2)]? = some (F (r1 ++ a :: r2)) := by
  have e := tab_at (F := F) (rest_app h1 (show Rest (m :: suf) (a :: r2) from ⟨ha, h2⟩))
  rw [plc_app h1] at e
  exact e
/-- shifted by s within each block of b the list is the same -/
def Again (p : List α) (b s : Nat) : Prop := ∀ j i, (j + 1) * b ≤ p.length → i + s < b → p[j * b + (i + s)]? = p[j * b + i]?
theorem again_iff {d : Nat} (hv : 0 < vol suf) (hm : 0 < m) : Again (tab (pre ++ m :: suf) F) (m * vol suf) (d * vol suf) ↔ ∀ r1 a r2, Rest pre r1 → a + d < m → Rest suf r2 → F (r1 ++ (a + d) :: r2) = F (r1 ++ a :: r2) := by
  constructor
  · intro A r1 a r2 h1 ha h2
    have l1 := plc_lt h1
    have l2 := plc_lt h2
    have q : (a + d + 1) * vol suf ≤ m * vol suf := Nat.mul_le_mul_right _ ha
    have q2 : (plc pre r1 + 1) * (m * vol suf) ≤ vol pre * (m * vol suf) := Nat.mul_le_mul_right _ l1
    have e := A (plc pre r1) (a * vol suf + plc suf r2) (by rw [tab_len, vol_app]; exact q2) (by
      rw [Nat.add_mul, Nat.add_mul] at q
      omega)
    have e2 : a * vol suf + plc suf r2 + d * vol suf = (a + d) * vol suf + plc suf r2 := by rw [Nat.add_mul]; omega
    rw [e2, mid_at h1 ha h2, mid_at h1 (by omega) h2] at e
    exact Option.some.inj e
  · intro A j i hj hi
    rw [tab_len, vol_app] at hj
    have bp : 0 < m * vol suf := Nat.mul_pos hm hv
    have jv : j < vol pre := by
      have := Nat.le_of_mul_le_mul_right (show (j + 1) * (m * vol suf) ≤ vol pre * (m * vol suf) from hj) bp
      omega
    obtain ⟨r1, h1, rfl⟩ := plc_sur jv
    obtain ⟨r2, h2, e2⟩ := plc_sur (Nat.mod_lt i hv)
    have ei : i = i / vol suf * vol suf + plc suf r2 := by
      rw [e2, Nat.mul_comm]
      exact (Nat.div_add_mod i _).symm
    have ha : i / vol suf + d < m := by
      have : (i / vol suf + d) * vol suf < m * vol suf := by
        rw [Nat.add_mul]
        omega
      exact Nat.lt_of_mul_lt_mul_right this
    have es : i + d * vol suf = (i / vol suf + d) * vol suf + plc suf r2 := by
      rw [Nat.add_mul]
      omega
    rw [es, mid_at h1 ha h2, A r1 _ r2 h1 ha h2, ← mid_at (m := m) h1 (by omega) h2, ← ei]
/-- of each block of b the first s -/
def cutB (p : List α) (b s n : Nat) : List α := (List.range n).flatMap fun j => (p.drop (j * b)).take s
theorem cut_tab {d : Nat} (hd : d ≤ m) : cutB (tab (pre ++ m :: suf) F) (m * vol suf) (d * vol suf) (vol pre) = tab (pre ++ d :: suf) F := by
  have dm : d * vol suf ≤ m * vol suf := Nat.mul_le_mul_right _ hd
  refine List.ext_getElem? fun i => ?_
  have cl : ∀ j, j < vol pre → (((tab (pre ++ m :: suf) F).drop (j * (m * vol suf))).take (d * vol suf)).length = d * vol suf := fun j hj => by
    have q : (j + 1) * (m * vol suf) ≤ vol pre * (m * vol suf) := Nat.mul_le_mul_right _ hj
    rw [Nat.succ_mul] at q
    rw [List.length_take, List.length_drop, tab_len, vol_app]
    show min _ (vol pre * (m * vol suf) - _) = _
    omega
  have key : ∀ n, n ≤ vol pre → (cutB (tab (pre ++ m :: suf) F) (m * vol suf) (d * vol suf) n).length = n * (d * vol suf) ∧ ∀ j i, j < n → i < d * vol suf → (cutB (tab (pre ++ m :: suf) F) (m * vol suf) (d * vol suf) n)[j * (d * vol suf) + i]? = (tab (pre ++ m :: suf) F)[j * (m * vol suf) + i]? := by
    intro n
    induction n with
    | zero => exact fun _ => ⟨by simp [cutB], fun j _ h _ => absurd h (by omega)⟩
    | succ n ih =>
      intro hn
      obtain ⟨i1, i2⟩ := ih (by omega)
      have e : cutB (tab (pre ++ m :: suf) F) (m * vol suf) (d * vol suf) (n + 1) = cutB (tab (pre ++ m :: suf) F) (m * vol suf) (d * vol suf) n ++ ((tab (pre ++ m :: suf) F).drop (n * (m * vol suf))).take (d * vol suf) := by
        unfold cutB
        rw [List.range_succ, List.flatMap_append]
        simp
      rw [e]
      refine ⟨by rw [List.length_append, i1, cl n (by omega), Nat.succ_mul], fun j i hj hi => ?_⟩
      by_cases ej : j = n
      · subst ej
        rw [List.getElem?_append_right (by omega), i1, Nat.add_sub_cancel_left, List.getElem?_take_of_lt hi, List.getElem?_drop]
      · have q : (j + 1) * (d * vol suf) ≤ n * (d * vol suf) := Nat.mul_le_mul_right _ (by omega)
        rw [Nat.succ_mul] at q
        rw [List.getElem?_append_left (by omega)]
        exact i2 j i (by omega) hi
  obtain ⟨k1, k2⟩ := key _ (Nat.le_refl _)
  by_cases hi : i < vol (pre ++ d :: suf)
  · obtain ⟨r, hr, rfl⟩ := plc_sur hi
    obtain ⟨r1, r2, rfl, h1, h2⟩ := rest_split hr
    match r2, h2 with
    | a :: r2, h2 =>
      have l2 := plc_lt (show Rest (d :: suf) (a :: r2) from h2)
      rw [tab_at hr, plc_app h1]
      exact (k2 _ _ (plc_lt h1) l2).trans (mid_at h1 (Nat.lt_of_lt_of_le h2.1 hd) h2.2)
  · have hv := vol_app pre (d :: suf)
    have hv2 : vol (d :: suf) = d * vol suf := rfl
    rw [hv2] at hv
    rw [List.getElem?_eq_none (by rw [k1]; omega), List.getElem?_eq_none (by rw [tab_len]; omega)]
/-! ### a function of all numbers, told by a table -/
def modl : List Nat → List Nat → List Nat
  | m :: ms, a :: r => a % m :: modl ms r
  | _, _ => []
theorem modl_rest : ∀ {ms r : List Nat}, (∀ m ∈ ms, 0 < m) → r.length = ms.length → Rest ms (modl ms r)
  | [], [], _, _ => trivial
  | m :: ms, a :: r, h, e => ⟨Nat.mod_lt _ (h m List.mem_cons_self), modl_rest (fun x hx => h x (List.mem_cons_of_mem _ hx)) (Nat.succ.inj e)⟩
  | [], _ :: _, _, e => nomatch e
  | _ :: _, [], _, e => nomatch e
theorem modl_id : ∀ {ms r : List Nat}, Rest ms r → modl ms r = r
  | [], [], _ => rfl
  | m :: ms, a :: r, h => by
    show a % m :: modl ms r = _
    rw [Nat.mod_eq_of_lt h.1, modl_id h.2]
  | [], _ :: _, h => h.elim
  | _ :: _, [], h => h.elim
theorem modl_len : ∀ {ms r : List Nat}, r.length = ms.length → (modl ms r).length = ms.length
  | [], [], _ => rfl
  | m :: ms, a :: r, e => congrArg Nat.succ (modl_len (Nat.succ.inj e))
  | [], _ :: _, e => nomatch e
  | _ :: _, [], e => nomatch e
/-- q more at the place i changes nothing -/
def PdC (E : List Nat → α) (n i q : Nat) : Prop := ∀ r1 a r2, r1.length = i → r1.length + 1 + r2.length = n → E (r1 ++ (a + q) :: r2) = E (r1 ++ a :: r2)
theorem PdC.times {E : List Nat → α} {n i q : Nat} (h : PdC E n i q) : ∀ k, PdC E n i (q * k)
  | 0 => fun _ _ _ _ _ => rfl
  | k + 1 => fun r1 a r2 h1 h2 => by
    rw [Nat.mul_succ, ← Nat.add_assoc, h r1 (a + q * k) r2 h1 h2]
    exact PdC.times h k r1 a r2 h1 h2
theorem PdC.mod {E : List Nat → α} {n i a b : Nat} (ha : PdC E n i a) (hb : PdC E n i b) : PdC E n i (b % a) := fun r1 x r2 h1 h2 => by
  have e := ha.times (b / a) r1 (x + b % a) r2 h1 h2
  have e2 : x + b % a + a * (b / a) = x + b := by
    have := Nat.div_add_mod b a
    omega
  rw [← e, e2]
  exact hb r1 x r2 h1 h2
theorem PdC.gcd {E : List Nat → α} {n i : Nat} : ∀ a b, PdC E n i a → PdC E n i b → PdC E n i (Nat.gcd a b) := by
  intro a b
  induction a, b using Nat.gcd.induction with
  | H0 b => intro _ hb; rw [Nat.gcd_zero_left]; exact hb
  | H1 a b _ ih => intro ha hb; rw [Nat.gcd_rec]; exact ih (ha.mod hb) ha
theorem pers_pdc (E : List Nat → α) (n i : Nat) : Pers (PdC E n i) := ⟨fun a b ha hb => PdC.gcd a b ha hb, fun _ k h => h.times k⟩
theorem PdC.less {E : List Nat → α} {n i m : Nat} (h : PdC E n i m) {r1 r2 : List Nat} (a : Nat) (h1 : r1.length = i) (h2 : r1.length + 1 + r2.length = n) : E (r1 ++ a % m :: r2) = E (r1 ++ a :: r2) := by
  have e := h.times (a / m) r1 (a % m) r2 h1 h2
  rw [Nat.mod_add_div] at e
  exact e.symm
/-- p is the table of E by the moduli ms, which are periods of it -/
structure Told (E : List Nat → α) (ms : List Nat) (p : List α) : Prop where
  pos : ∀ m ∈ ms, 0 < m
  per : ∀ pre m suf, ms = pre ++ m :: suf → PdC E ms.length pre.length m
  tab : p = tab ms E
theorem Told.modl_app {E : List Nat → α} {ms : List Nat} {p : List α} (T : Told E ms p) : ∀ (suf pre r1 r2 : List Nat), ms = pre ++ suf → r1.length = pre.length → r2.length = suf.length → E (r1 ++ modl suf r2) = E (r1 ++ r2)
  | [], _, _, [], _, _, _ => rfl
  | m :: suf, pre, r1, a :: r2, e, h1, h2 => by
    have h2' : r2.length = suf.length := Nat.succ.inj h2
    have l : ms.length = pre.length + 1 + suf.length := by rw [e, List.length_append, List.length_cons]; omega
    have q := T.modl_app suf (pre ++ [m]) (r1 ++ [a % m]) r2 (by rw [e]; simp) (by simp [h1]) h2'
    rw [List.append_assoc, List.append_assoc] at q
    refine q.trans ?_
    exact (T.per pre m suf e).less (r2 := r2) a h1 (by omega)
  | [], _, _, _ :: _, _, _, h => nomatch h
  | _ :: _, _, _, [], _, _, h => nomatch h
theorem Told.modl {E : List Nat → α} {ms : List Nat} {p : List α} (T : Told E ms p) {r : List Nat} (h : r.length = ms.length) : E (modl ms r) = E r := T.modl_app ms [] [] r rfl rfl h
theorem Told.at {E : List Nat → α} {ms : List Nat} {p : List α} (T : Told E ms p) {r : List Nat} (h : r.length = ms.length) : p[plc ms (FM.modl ms r)]? = some (E r) := by
  have e := tab_at (F := E) (modl_rest T.pos h)
  rw [← T.tab, T.modl h] at e
  exact e
/-- in a ring of m: what stands up to its end stands round it -/
theorem ring_local {g : Nat → α} {m d : Nat} (hd : d ∣ m) (d0 : 0 < d) (m0 : 0 < m) (per : ∀ n, g (n % m) = g n) (loc : ∀ a, a + d < m → g (a + d) = g a) : ∀ n, g (n + d) = g n := by
  have many : ∀ k a, a + d * k < m → g (a + d * k) = g a := by
    intro k
    induction k with
    | zero => exact fun _ _ => rfl
    | succ k ih =>
      intro a h
      rw [Nat.mul_succ] at h ⊢
      rw [← Nat.add_assoc, loc _ (by omega), ih a (by omega)]
  intro n
  have dm : d ≤ m := Nat.le_of_dvd m0 hd
  rw [← per (n + d), ← per n]
  have n0 := Nat.mod_lt n m0
  by_cases h : n % m + d < m
  · rw [Nat.add_mod, ← loc _ h]
    by_cases e : d = m
    · omega
    · rw [Nat.mod_eq_of_lt (show d < m by omega), Nat.mod_eq_of_lt h]
  · have e1 : (n + d) % m = n % m + d - m := by
      rw [Nat.add_mod]
      by_cases e : d = m
      · rw [e, Nat.mod_self, Nat.add_zero, Nat.mod_mod]
        omega
      · rw [Nat.mod_eq_of_lt (show d < m by omega), Nat.mod_eq_sub_mod (by omega), Nat.mod_eq_of_lt (by omega)]
    rw [e1]
    obtain ⟨k, hk⟩ := hd
    have k0 : 0 < k := Nat.pos_of_ne_zero fun z => by rw [z] at hk; omega
    have e2 : n % m = n % m + d - m + d * (k - 1) := by
      rw [Nat.mul_sub, Nat.mul_one, ← hk]
      omega
    have := many (k - 1) (n % m + d - m) (by omega)
    rw [← e2] at this
    exact this.symm
theorem vol_pos {ms : List Nat} (h : ∀ m ∈ ms, 0 < m) : 0 < vol ms := by
  induction ms with
  | nil => exact Nat.zero_lt_one
  | cons m ms ih => exact Nat.mul_pos (h m List.mem_cons_self) (ih fun x hx => h x (List.mem_cons_of_mem _ hx))
theorem Told.again {E : List Nat → α} {d : Nat} {p : List α} (T : Told E (pre ++ m :: suf) p) (hd : d ∣ m) (d0 : 0 < d) : Again p (m * vol suf) (d * vol suf) ↔ PdC E (pre ++ m :: suf).length pre.length d := by
  have m0 : 0 < m := T.pos m (by simp)
  have v0 : 0 < vol suf := vol_pos fun x hx => T.pos x (by simp [hx])
  rw [T.tab, again_iff v0 m0]
  constructor
  · intro loc r1 a r2 h1 h2
    have l : (pre ++ m :: suf).length = pre.length + 1 + suf.length := by rw [List.length_append, List.length_cons]; omega
    have hp : ∀ x, E (r1 ++ x :: r2) = E (FM.modl pre r1 ++ (x % m :: FM.modl suf r2)) := fun x => by
      have e := T.modl (r := r1 ++ x :: r2) (by simp; omega)
      have f : ∀ (pre r1 : List Nat), r1.length = pre.length → FM.modl (pre ++ m :: suf) (r1 ++ x :: r2) = FM.modl pre r1 ++ (x % m :: FM.modl suf r2) := fun pre => by
        induction pre with
        | nil =>
          intro r1 h
          match r1, h with
          | [], _ => rfl
        | cons q pre ih =>
          intro r1 h
          match r1, h with
          | b :: r1, h => exact congrArg (b % q :: ·) (ih r1 (Nat.succ.inj h))
      rw [f pre r1 h1] at e
      exact e.symm
    have k1 := modl_rest (ms := pre) (r := r1) (fun x hx => T.pos x (by simp [hx])) h1
    have k2 := modl_rest (ms := suf) (r := r2) (fun x hx => T.pos x (by simp [hx])) (by omega)
    have R := ring_local (g := fun x => E (FM.modl pre r1 ++ x :: FM.modl suf r2)) hd d0 m0 (fun n => (T.per pre m suf rfl).less n (rest_len k1) (by rw [l, rest_len k1, rest_len k2])) (fun x hx => loc _ x _ k1 hx k2) a
    have M := fun x => (T.per pre m suf rfl).less (r1 := FM.modl pre r1) (r2 := FM.modl suf r2) x (rest_len k1) (by rw [l, rest_len k1, rest_len k2])
    rw [hp, hp, M, M]
    exact R
  · intro P r1 a r2 h1 ha h2
    exact P r1 a r2 (rest_len h1) (by rw [rest_len h1, rest_len h2, List.length_append, List.length_cons]; omega)
/-- the place made less -/
theorem Told.cut {E : List Nat → α} {d : Nat} {p : List α} (T : Told E (pre ++ m :: suf) p) (hd : d ∣ m) (d0 : 0 < d) (P : PdC E (pre ++ m :: suf).length pre.length d) : Told E (pre ++ d :: suf) (cutB p (m * vol suf) (d * vol suf) (vol pre)) := by
  have m0 : 0 < m := T.pos m (by simp)
  have l : (pre ++ d :: suf).length = (pre ++ m :: suf).length := by simp
  refine ⟨fun x hx => ?_, fun pre' x suf' e => ?_, ?_⟩
  · rcases List.mem_append.mp hx with z | z
    · exact T.pos x (by simp [z])
    · rcases List.mem_cons.mp z with z | z
      · rw [z]; exact d0
      · exact T.pos x (by simp [z])
  · rw [l]
    rcases Nat.lt_trichotomy pre'.length pre.length with h | h | h
    · have e1 : (pre ++ d :: suf)[pre'.length]? = some x := by rw [e]; simp
      rw [List.getElem?_append_left h] at e1
      obtain ⟨w, hw⟩ : ∃ w, pre = pre' ++ x :: w := by
        refine ⟨pre.drop (pre'.length + 1), ?_⟩
        have t : pre' = pre.take pre'.length := by
          have := congrArg (List.take pre'.length) e
          rw [List.take_append_of_le_length (by omega), List.take_append_of_le_length (Nat.le_refl _), List.take_length] at this
          exact this.symm
        conv => lhs; rw [← List.take_append_drop pre'.length pre]
        rw [List.getElem?_eq_getElem h] at e1
        rw [List.drop_eq_getElem_cons h, Option.some.inj e1, ← t]
      exact T.per pre' x (w ++ m :: suf) (by rw [hw]; simp)
    · have e1 : (pre ++ d :: suf)[pre'.length]? = some x := by rw [e]; simp
      rw [h, List.getElem?_append_right (Nat.le_refl _), Nat.sub_self] at e1
      obtain rfl : d = x := Option.some.inj e1
      rw [h]
      exact P
    · have e1 : (pre ++ d :: suf)[pre'.length]? = some x := by rw [e]; simp
      obtain ⟨w, hw⟩ : ∃ w, pre' = pre ++ d :: w := by
        refine ⟨pre'.drop (pre.length + 1), ?_⟩
        have t := congrArg (List.take (pre.length + 1)) e
        rw [List.take_append_of_le_length (show pre.length + 1 ≤ pre'.length by omega)] at t
        have t2 : (pre ++ d :: suf).take (pre.length + 1) = pre ++ [d] := by
          rw [List.take_append, List.take_of_length_le (by omega)]
          simp
        rw [t2] at t
        conv => lhs; rw [← List.take_append_drop (pre.length + 1) pre', ← t]
        simp
      have s2 : suf = w ++ x :: suf' := by
        rw [hw] at e
        simpa using e
      have q := T.per (pre ++ m :: w) x suf' (by rw [s2]; simp)
      rw [hw]
      have ll : (pre ++ d :: w).length = (pre ++ m :: w).length := by simp
      rw [ll]
      exact q
  · rw [T.tab]
    exact cut_tab (Nat.le_of_dvd m0 hd)
/-- each place is the least -/
structure LeastT (E : List Nat → α) (ms : List Nat) : Prop where
  least : ∀ pre m suf, ms = pre ++ m :: suf → 0 < m ∧ PdC E ms.length pre.length m ∧ ∀ q, 0 < q → PdC E ms.length pre.length q → m ∣ q
theorem LeastT.uniq {E : List Nat → α} {ms ns : List Nat} (a : LeastT E ms) (b : LeastT E ns) (l : ms.length = ns.length) : ms = ns := by
  refine List.ext_getElem l fun i h1 h2 => ?_
  have e1 : ms = ms.take i ++ ms[i] :: ms.drop (i + 1) := by rw [← List.drop_eq_getElem_cons h1, List.take_append_drop]
  have e2 : ns = ns.take i ++ ns[i] :: ns.drop (i + 1) := by rw [← List.drop_eq_getElem_cons h2, List.take_append_drop]
  obtain ⟨a1, a2, a3⟩ := a.least _ _ _ e1
  obtain ⟨b1, b2, b3⟩ := b.least _ _ _ e2
  have l1 : (ms.take i).length = i := by rw [List.length_take]; omega
  have l2 : (ns.take i).length = i := by rw [List.length_take]; omega
  rw [l1] at a2 a3
  rw [l2] at b2 b3
  exact Nat.dvd_antisymm (a3 _ b1 (by rw [l]; exact b2)) (b3 _ a1 (by rw [← l]; exact a2))
/-- what a table tells of all numbers -/
def told (ms : List Nat) (p : List α) (d : α) : List Nat → α := fun r => p.getD (plc ms (modl ms r)) d
theorem modl_more {ms pre suf : List Nat} {m : Nat} (e : ms = pre ++ m :: suf) {r1 r2 : List Nat} (a : Nat) (h1 : r1.length = pre.length) : modl ms (r1 ++ (a + m) :: r2) = modl ms (r1 ++ a :: r2) := by
  subst e
  induction pre generalizing r1 with
  | nil =>
    match r1, h1 with
    | [], _ =>
      show (a + m) % m :: _ = a % m :: _
      rw [Nat.add_mod_right]
  | cons q pre ih =>
    match r1, h1 with
    | b :: r1, h1 => exact congrArg (b % q :: ·) (ih (Nat.succ.inj h1))
theorem told_told {ms : List Nat} {p : List α} {d : α} (h : ∀ m ∈ ms, 0 < m) (l : p.length = vol ms) : Told (told ms p d) ms p :=
  ⟨h, fun pre m suf e r1 a r2 h1 _ => by unfold told; rw [modl_more e a h1], by
    conv => lhs; rw [← tab_of l d]
    exact tab_ext fun r hr => by unfold told; rw [modl_id hr]⟩
end FM

set_option Elab.async false
set_option linter.all false
set_option maxRecDepth 100000
set_option maxHeartbeats 4000000
set_option exponentiation.threshold 5000
namespace K09
open PySem L2 DL PySem.HouseX
def top (i : Nat) : Stmt := PySem.Challenge.pw_accountmaps_k09_forms_in_their_least_way.main.body.getD i (.Pass ⟨0, 0, 0, 0⟩)
abbrev sSack : Stmt := top 40
abbrev sPick : Stmt := top 41
abbrev sChkState : Stmt := top 6
abbrev sChkIndex : Stmt := top 7
abbrev sCopied : Stmt := top 9
abbrev sProd : Stmt := top 11
abbrev sPlaceOf : Stmt := top 12
abbrev sPrimes : Stmt := top 13
abbrev sComes : Stmt := top 14
abbrev sLeastW : Stmt := top 15
abbrev sTableOf : Stmt := top 17
abbrev sRowsOf : Stmt := top 18
abbrev sFormOfT : Stmt := top 19
abbrev sPieceOfR : Stmt := top 20
abbrev sRowAt : Stmt := top 21
abbrev sRowsAt : Stmt := top 22
abbrev sIsForm : Stmt := top 24
abbrev sIsPiece : Stmt := top 25
abbrev sAccIn : Stmt := top 26
abbrev sResIn : Stmt := top 27
abbrev sCheckF : Stmt := top 28
abbrev sHangs : Stmt := top 30
abbrev sLeast : Stmt := top 32
abbrev sAt : Stmt := top 33
abbrev sAlike : Stmt := top 34
abbrev sIsPlain : Stmt := top 35
abbrev sMatrices : Stmt := top 36
abbrev sHangsOn : Stmt := top 37
abbrev sCheckB : Stmt := top 38
abbrev sLCopy : Stmt := top 42
abbrev sRanks : Stmt := top 43
abbrev sSame : Stmt := top 44
abbrev sLState : Stmt := top 45
abbrev sLRests : Stmt := top 46
abbrev sLPiece : Stmt := top 47
abbrev sLAt : Stmt := top 48
abbrev sLPeriod : Stmt := top 49
abbrev sLMoved : Stmt := top 50
abbrev sLModuli : Stmt := top 51
abbrev sLDrawnP : Stmt := top 52
abbrev sLDrawnF : Stmt := top 53
abbrev sLToldW : Stmt := top 54
abbrev sLLeast : Stmt := top 55
abbrev sLWidened : Stmt := top 56
abbrev sLHangs : Stmt := top 57
abbrev sLHangsR : Stmt := top 58
abbrev sLChanged : Stmt := top 59
abbrev sLRight : Stmt := top 60
abbrev sLLaw : Stmt := top 61
/-! great powers -/
def CPowG (i j : Int) : Prop := 0 ≤ j ∧ j ≤ 64 ∧ i.natAbs < 2 ^ 4000
theorem op_powG {X : Cx} : OpR X (binaryOp .Pow) (rI CPowG fun i j => .int (i ^ j.toNat)) := opI fun i j _ _ _ _ _ hc q => by
  obtain ⟨h0, h1, h2⟩ := hc
  refine PyProof.Rows.pow_int h0 ?_ q
  have hb : Builtin.Int.intBits i ≤ 4000 := by
    unfold Builtin.Int.intBits
    split
    · exact Nat.zero_le _
    · have := PySem.Flt.log2_lt_of (by decide) h2
      omega
  have : ((Builtin.Int.intBits i : Nat) : Int) * j ≤ 4000 * 64 := by
    have a1 : ((Builtin.Int.intBits i : Nat) : Int) ≤ 4000 := by omega
    exact Int.mul_le_mul a1 h1 h0 (by omega)
  exact Int.le_trans this (by decide)
structure TxtN (K : PySem.W.Frag) (mg : Str → Option Value) : Prop where
  len : mg "len" = none
  max : mg "max" = none
  min : mg "min" = none
  abs : mg "abs" = none
  int : mg "int" = none
/-- a sack: three numbers in a list -/
def SackAt (H : Hp) (p : Addr) (n : Nat) : Prop := ∃ a b c : Int, H p = some (.lst [.int a, .int b, .int c]) ∧ 0 ≤ a ∧ 0 ≤ b ∧ b < 2 ^ 130 ∧ 0 ≤ c ∧ c ≤ (n : Int)
def spSack (K : PySem.W.Frag) : Sp := fun vs H Q _ => ∃ (a : Addr) (ns : List Int) (r : Nat), vs = [.ref a, .int r] ∧ SqL K H a (ns.map V.int) ∧ ns.length ≤ 100 ∧ r < 100 ∧
  ∀ H' p, H p = none → Same H H' → (∀ b, b ≠ p → H' b = H b) → SackAt H' p 0 → Q (.ref p) H'
def spPick : Sp := fun vs H Q _ => ∃ (p : Addr) (n : Nat) (m : Int), vs = [.ref p, .int m] ∧ SackAt H p n ∧ n ≤ 1000000000 ∧ 0 < m ∧ m < 2 ^ 200 ∧
  ∀ H' r, 0 ≤ r → r < m → (∀ b, b ≠ p → H' b = H b) → SackAt H' p (n + 1) → Q (.int r) H'
section
variable {P : Program} {w : World} {K : PySem.W.Frag} {mg : Str → Option Value} {base : Heap}
theorem scSack : FnScope ["_law_script", "_law_rank", "_law_cell"] ["_law_script", "_law_rank"] (defScope sSack) := ⟨rfl, rfl, rfl, by decide +kernel, rfl, by decide +kernel, by decide +kernel⟩
theorem ok_sack {f : Addr} {fd : FuncData} (F : Fun K "_law_hd_sack" "_law_hd_sack" sSack f fd) (T : TxtN K mg) : FnOk P w K mg base CX0 1 f fd ["_law_script", "_law_rank"] (spSack K) := by
  refine F.ok scSack (fun vs H Q E h => ?_) (fun cdv A outer s H vs Q E hr h => ?_)
  · obtain ⟨a, ns, r, rfl, _⟩ := h
    rfl
  · obtain ⟨a, ns, r, rfl, hS, hl, hr0, k⟩ := h
    refine ⟨_, pss_cons (ps_set (i := 2) scSack.nd rfl (Or.inl rfl) (pe_ifExp (pt_cmpR op_lt (pv 1) (pe_callB call_len_seq (by rfl) T.len PySem.boot_len (pa_cons (pv 0) pa_nil)) (nomark _)) (pe_ix ix_list (pv 0) (pv 1) (fun _ _ => rfl)) pe_int))
      (pss_one (ps_ret (pe_lst (pa_cons (pe_callB (call_max2 rfl) (by rfl) T.max (by decide +kernel) (pa_cons pe_int (pa_cons (pe_op op_sub (pe_callB call_abs (by rfl) T.abs (by decide +kernel) (pa_cons (pv 2) pa_nil)) (pe_op op_pow pe_int pe_int)) pa_nil)))
        (pa_cons (pe_op op_modN (pe_callTy call_int1 (by rfl) T.int (by decide +kernel) (pa_cons (pe_op op_add (pe_op op_add (pe_op op_mul (pv 2) pe_int) (pe_op op_mul (pv 1) pe_int)) pe_int) pa_nil)) (pe_op op_add (pe_op op_pow pe_int pe_int) pe_int))
        (pa_cons pe_int pa_nil)))))), ?_⟩
    refine ⟨_, rfl, _, rfl, a, _, rfl, .inl hS, _, _, rfl, rfl, _, rfl, ?_⟩
    have cellAll : ∀ c : Int, (0 : Int) ≤ (if (if c < 0 then -c else c) - 10 ^ 18 > 0 then (if c < 0 then -c else c) - 10 ^ 18 else 0) := fun c => by split <;> omega
    have modLe : ∀ x : Int, 0 ≤ x.fmod (10 ^ 36 + 67) ∧ x.fmod (10 ^ 36 + 67) < 2 ^ 130 := fun x => by
      rw [Int.fmod_eq_emod_of_nonneg x (by decide)]
      have h1 := Int.emod_nonneg x (show (10 ^ 36 + 67 : Int) ≠ 0 by decide)
      have h2 := Int.emod_lt_of_pos x (show (0 : Int) < 10 ^ 36 + 67 by decide)
      exact ⟨h1, Int.lt_trans h2 (by decide)⟩
    refine ite2 (fun hc => ?A) (fun hc => ?B)
    case' A =>
      have hc' : r < ns.length := by
        have := of_decide_eq_true hc
        rw [List.length_map] at this
        omega
      refine ⟨_, rfl, _, rfl, a, _, _, _, rfl, rfl, hS, atI_nat (by rw [List.getElem?_map, List.getElem?_eq_getElem hc']; rfl), ?_⟩
    all_goals
      refine ⟨_, rfl, _, rfl, _, _, rfl, rfl, ⟨by decide, by decide, by decide⟩, _, _, rfl, rfl, _, _, rfl, ?_⟩
      refine ⟨_, rfl, _, _, rfl, rfl, .inr ⟨by decide, by decide⟩, _, rfl, _, _, rfl, rfl, .inr ⟨by decide, by decide⟩, _, _, rfl, rfl, _, _, rfl, rfl, .inl ⟨_, rfl, ?_⟩⟩
      refine ⟨_, _, rfl, rfl, ⟨by decide, by decide, by decide⟩, _, _, rfl, rfl, _, _, rfl, rfl, (show (10 ^ 36 + 67 : Int) ≠ 0 by decide), ?_⟩
      refine ⟨by show 3 ≤ sizeLine; decide, fun p hp => ?_⟩
      refine k _ p hp (fun b o e => ?_) (fun b hb => upd_ne hb) ⟨_, _, _, upd_same, cellAll _, (modLe _).1, (modLe _).2, by decide, by decide⟩
      rw [upd_ne (ne_of_none e hp)]
      exact e
theorem scPick : FnScope ["_law_sack", "_law_many", "_law_drawn", "_law_stirred"] ["_law_sack", "_law_many"] (defScope sPick) := ⟨rfl, rfl, rfl, by decide +kernel, rfl, by decide +kernel, by decide +kernel⟩
theorem ok_pick {f : Addr} {fd : FuncData} (F : Fun K "_law_hd_pick" "_law_hd_pick" sPick f fd) (T : TxtN K mg) : FnOk P w K mg base CX0 1 f fd ["_law_sack", "_law_many"] spPick := by
  refine F.ok scPick (fun vs H Q E h => ?_) (fun cdv A outer s H vs Q E hr h => ?_)
  · obtain ⟨p, n, m, rfl, _⟩ := h
    rfl
  · obtain ⟨p, n, m, rfl, ⟨a, b, c, hp, ha, hb, hb2, hc, hcn⟩, hn, hm, hm2, k⟩ := h
    refine ⟨_, pss_cons (ps_if (pt_cmpR op_gt (pe_ix ix_list (pv 0) pe_int (fun _ _ => rfl)) pe_int (nomark _))
        (pss_cons (ps_set (i := 2) scPick.nd rfl (Or.inl rfl) (pe_op op_modN (pe_callTy call_int1 (by rfl) T.int (by decide +kernel) (pa_cons (pe_ix ix_list (pv 0) pe_int (fun _ _ => rfl)) pa_nil)) (pv 1)))
          (pss_cons (ps_asg (pe_op op_fdivW (pe_ix ix_list (pv 0) pe_int (fun _ _ => rfl)) (pv 1)) (pg_sub (pv 0) pe_int set_list)) (pss_one (ps_ret (pv 2))))) pss_nil)
      (pss_cons (ps_asg (pe_op op_add (pe_ix ix_list (pv 0) pe_int (fun _ _ => rfl)) pe_int) (pg_sub (pv 0) pe_int set_list))
      (pss_cons (ps_set (i := 3) scPick.nd rfl (Or.inl rfl) (pe_op op_modN (pe_op op_powG (pe_callTy call_int1 (by rfl) T.int (by decide +kernel) (pa_cons (pe_op op_add (pe_ix ix_list (pv 0) pe_int (fun _ _ => rfl)) (pe_op op_mul pe_int (pe_ix ix_list (pv 0) pe_int (fun _ _ => rfl)))) pa_nil)) pe_int) (pe_op op_add (pe_op op_pow pe_int pe_int) pe_int)))
      (pss_cons (ps_set (i := 3) scPick.nd rfl (Or.inl rfl) (pe_op op_modN (pe_op op_powG (pe_callTy call_int1 (by rfl) T.int (by decide +kernel) (pa_cons (pe_op op_add (pv 3) (pe_op op_mul pe_int (pe_ix ix_list (pv 0) pe_int (fun _ _ => rfl)))) pa_nil)) pe_int) (pe_op op_add (pe_op op_pow pe_int pe_int) pe_int)))
      (pss_one (ps_ret (pe_op op_modN (pe_callTy call_int1 (by rfl) T.int (by decide +kernel) (pa_cons (pe_op op_fdiv (pv 3) pe_int) pa_nil)) (pv 1))))))), ?_⟩
    refine ⟨_, rfl, p, _, _, _, rfl, rfl, SqL.of hp, rfl, _, _, rfl, rfl, _, rfl, ?_⟩
    refine ite2 (fun hg => ?_) (fun hg => ?_)
    · refine ⟨_, rfl, p, _, _, _, rfl, rfl, SqL.of hp, rfl, .inl ⟨_, rfl, ?_⟩⟩
      refine ⟨_, rfl, _, _, rfl, rfl, (by omega), ?_⟩
      refine ⟨_, rfl, p, _, _, _, rfl, rfl, SqL.of hp, rfl, _, rfl, _, _, rfl, rfl, wide_div hm (b := 201) (by omega) (by decide) (by decide), ?_⟩
      refine ⟨_, rfl, p, _, _, 0, rfl, rfl, hp, rfl, ?_⟩
      refine ⟨_, rfl, ?_⟩
      refine k _ _ (Int.fmod_nonneg_of_pos _ hm) (Int.fmod_lt_of_pos _ hm) (fun x hx => upd_ne hx) ⟨_, _, _, upd_same, Int.ediv_nonneg ha (by omega), hb, hb2, hc, by omega⟩
    · refine ⟨_, rfl, p, _, _, _, rfl, rfl, SqL.of hp, rfl, _, _, rfl, rfl, _, rfl, p, _, _, 2, rfl, rfl, hp, rfl, ?_⟩
      have h1 : upd H p (.lst [.int a, .int b, .int (c + 1)]) p = some (.lst [.int a, .int b, .int (c + 1)]) := upd_same
      refine ⟨_, rfl, p, _, _, _, rfl, rfl, SqL.of h1, rfl, _, rfl, p, _, _, _, rfl, rfl, SqL.of h1, rfl, _, _, rfl, rfl, .inr ⟨by omega, by omega⟩, _, _, rfl, rfl, .inl ⟨_, rfl, ?_⟩⟩
      refine ⟨_, _, rfl, rfl, ⟨by decide, by decide, ?_⟩, _, _, rfl, rfl, ⟨by decide, by decide, by decide⟩, _, _, rfl, rfl, _, _, rfl, rfl, (show (10 ^ 40 + 121 : Int) ≠ 0 by decide), ?_⟩
      · have hb3 : b < 2 ^ 130 := hb2
        refine Nat.lt_of_lt_of_le (show _ < 2 ^ 131 from ?_) (by decide)
        omega
      obtain ⟨z, hz⟩ : ∃ z : Int, z = ((b + 1300190417 * (c + 1)) ^ Int.toNat 3).fmod (10 ^ Int.toNat 40 + 121) := ⟨_, rfl⟩
      have hz0 : 0 ≤ z := by rw [hz]; exact Int.fmod_nonneg_of_pos _ (by decide)
      have hz1 : z < 10 ^ 40 + 121 := by rw [hz]; exact Int.fmod_lt_of_pos _ (show (0 : Int) < 10 ^ 40 + 121 by decide)
      refine ⟨_, rfl, _, rfl, p, _, _, _, rfl, rfl, SqL.of h1, rfl, _, _, rfl, rfl, .inr ⟨by omega, by omega⟩, _, _, rfl, rfl, .inl ⟨_, rfl, ?_⟩⟩
      refine ⟨_, _, rfl, rfl, ⟨by decide, by decide, ?_⟩, _, _, rfl, rfl, ⟨by decide, by decide, by decide⟩, _, _, rfl, rfl, _, _, rfl, rfl, (show (10 ^ 36 + 67 : Int) ≠ 0 by decide), ?_⟩
      · have hz2 : z < 2 ^ 140 := Int.lt_trans hz1 (by decide)
        show (((b + 1300190417 * (c + 1)) ^ Int.toNat 3).fmod (10 ^ Int.toNat 40 + 121) + 15485863 * (c + 1)).natAbs < _
        rw [← hz]
        refine Nat.lt_of_lt_of_le (show _ < 2 ^ 141 from ?_) (by decide)
        omega
      refine ⟨_, rfl, _, _, rfl, rfl, ⟨by decide, by decide⟩, .inl ⟨_, rfl, ?_⟩⟩
      refine ⟨_, rfl, _, _, rfl, rfl, (by omega), ?_⟩
      exact k _ _ (Int.fmod_nonneg_of_pos _ hm) (Int.fmod_lt_of_pos _ hm) (fun x hx => upd_ne hx) ⟨_, _, _, upd_same, ha, hb, hb2, by omega, by omega⟩
end
end K09

set_option Elab.async false
set_option linter.all false
set_option maxRecDepth 100000
set_option maxHeartbeats 4000000
set_option exponentiation.threshold 5000
namespace L2
open PySem PySem.Spec PyProof.Rows PySem.HouseX
/-! ### range(a, b, c) as a value -/
def RngO (i j c : Int) (a : Addr) : HO := .ext fun h => ∃ t u v, h.get? a = some { cls := .type "range", data := .fields #[.int i t, .int j u, .int c v] }
section
variable {X : Cx}
theorem cr_range3 : CallR X (.type "range") (fun vs H Q => ∃ i j c n, vs = [V.int i, V.int j, V.int c] ∧ RgC i j c n ∧ ∀ p, H p = none → Q (.ref p) (upd H p (RngO i j c p))) := by
  intro pins s σ H vs us Q I r h
  obtain ⟨i, j, c, n, rfl, ⟨c0, c1, c2, c3⟩, q⟩ := h
  cases r with
  | cons r rr =>
    cases rr with
    | cons r' rr =>
      cases rr with
      | cons r'' rr =>
        cases rr
        obtain ⟨t, rfl⟩ := r
        obtain ⟨t', rfl⟩ := r'
        obtain ⟨t'', rfl⟩ := r''
        refine call_range_3 c0 ?_ (.inl (PyProof.noPylong_small c1))
        have e : (s.heap.push { cls := .type "range", data := .fields #[.int i t, .int j t', .int c t''] }).get? s.heap.objs.size = some { cls := .type "range", data := .fields #[.int i t, .int j t', .int c t''] } := Heap.get?_push_size _ rfl
        exact ⟨.ref s.heap.objs.size, upd H s.heap.objs.size (RngO i j c s.heap.objs.size), I.laid (t' := s.toks) (fun b o e => Heap.get?_push_of_some _ e) (Nat.le_refl _) ⟨⟨_, _, _, e⟩, ⟨_, e⟩, fun _ _ ⟨t, u, v, q⟩ k => ⟨t, u, v, k _ q⟩⟩, rfl, q _ (I.hok.fresh (Nat.le_refl _))⟩
def iRngC (te : TE) : TI := fun σ H R => te σ H fun x H1 => ∃ (a : Addr) (i j c : Int) (n : Nat), x = .ref a ∧ H1 a = some (RngO i j c a) ∧ RgC i j c n ∧ R (Itc i c n) H1
theorem pi_rngC {tg e : Expr} {te : TE} (he : PE X e te) : PI X tg e (iRngC te) := by
  refine ⟨fun pins s σ H R I h => ?_⟩
  refine thn (he.run pins s σ H _ I h) fun u s1 ⟨x, H1, I1, r1, a, i, j, k, n, ex, ha, ⟨c0, c1, c2, c3⟩, q⟩ => ?_
  subst ex
  obtain rfl : u = Value.ref a := r1
  obtain ⟨⟨t, t', t'', ho⟩, _, _⟩ := I1.hok a _ ha
  refine wpAny_pyIter_range ho c2 ?_
  refine pi_one (tk := s1.toks) I1 _ (turn_rangeC _ i k n) ?_ q
  have e1 : i + ((0 : Nat) : Int) * k = i := by simp
  have e2 : (n : Int) - ((0 : Nat) : Int) = Builtin.Range.rangeSize i j k := by rw [c3]; simp
  show IsRangeIter _ _ (i + ((0 : Nat) : Int) * k) ((n : Int) - ((0 : Nat) : Int)) k
  rw [e1, e2]
  exact Heap.get?_push_size _ rfl
end
theorem rgC_once {b : Nat} (h : 0 < b) (h2 : b < 1000000) : RgC 0 (b : Int) (b : Int) 1 := by
  have e : Builtin.Range.rangeSize 0 (b : Int) (b : Int) = 1 := by
    unfold Builtin.Range.rangeSize
    rw [if_pos (by omega), if_pos (by omega), Int.ediv_eq_zero_of_lt (by omega) (by omega)]
    rfl
  refine ⟨by omega, by omega, ?_, e⟩
  have f : ∀ i : Int, -1000001 ≤ i → i ≤ 3000000 → Builtin.Range.rangeFitsLong i = true := fun i h1 h2 => by
    unfold Builtin.Range.rangeFitsLong
    simp only [Bool.and_eq_true, decide_eq_true_eq]
    omega
  unfold Builtin.Range.small
  rw [e, f 0 (by decide) (by decide), f b (by omega) (by omega), f 1 (by decide) (by decide), if_pos (by omega), f _ (by omega) (by omega)]
  rfl
end L2
namespace K09
open PySem L2 DL PySem.HouseX CM
/-! ### a list that a comprehension makes -/
def made (keep : Nat → Bool) (val : Nat → V) (i : Nat) : List V := ((List.range i).filter keep).map val
theorem made_len (keep : Nat → Bool) (val : Nat → V) (i : Nat) : (made keep val i).length ≤ i := by
  unfold made
  rw [List.length_map]
  exact Nat.le_trans (List.length_filter_le _ _) (by simp)
theorem made_yes {keep : Nat → Bool} {val : Nat → V} {i : Nat} (h : keep i = true) : made keep val (i + 1) = made keep val i ++ [val i] := by
  unfold made
  rw [List.range_succ, List.filter_append, List.map_append]
  simp [h]
theorem made_no {keep : Nat → Bool} {val : Nat → V} {i : Nat} (h : keep i = false) : made keep val (i + 1) = made keep val i := by
  unfold made
  rw [List.range_succ, List.filter_append, List.map_append]
  simp [h]
theorem made_all (val : Nat → V) (n : Nat) : made (fun _ => true) val n = (List.range n).map val := by
  unfold made
  rw [List.filter_eq_self.mpr fun _ _ => rfl]
structure Made (H1 : Hp) (D : Addr) (keep : Nat → Bool) (val : Nat → V) (i : Nat) (H : Hp) : Prop where
  same : Same H1 H
  at_ : H D = some (.lst (made keep val i))
section
variable {H1 H H2 : Hp} {D : Addr} {keep : Nat → Bool} {val : Nat → V} {i : Nat}
theorem Made.start (hD : H1 D = none) : Made H1 D keep val 0 (upd H1 D (.lst [])) := ⟨same_new hD, upd_same⟩
theorem Made.yes (M : Made H1 D keep val i H) (hD : H1 D = none) (sm : Same H H2) (hk : keep i = true) (hi : i < 10000000) : ∃ acc, H2 D = some (.lst acc) ∧ acc.length < sizeLine ∧ Made H1 D keep val (i + 1) (upd H2 D (.lst (acc ++ [val i]))) := by
  refine ⟨_, sm _ _ M.at_, Nat.lt_of_le_of_lt (Nat.le_trans (made_len keep val i) (Nat.le_of_lt hi)) (by decide), ⟨fun b o e => ?_, ?_⟩⟩
  · rw [upd_ne (ne_of_none e hD)]
    exact sm _ _ (M.same _ _ e)
  · rw [upd_same, made_yes hk]
theorem Made.no (M : Made H1 D keep val i H) (sm : Same H H2) (hk : keep i = false) : Made H1 D keep val (i + 1) H2 := ⟨M.same.trans sm, by rw [made_no hk]; exact sm _ _ M.at_⟩
end
theorem map_at {α : Type} {f : α → V} {l : List α} {i : Nat} {x : V} {d : α} (h : (l.map f)[i]? = some x) : x = f (l.getD i d) := by
  rw [List.getElem?_map] at h
  cases e : l[i]? with
  | none => rw [e] at h; cases h
  | some y =>
    rw [e] at h
    rw [List.getD_eq_getElem?_getD, e]
    exact (Option.some.inj h).symm
theorem map_lt {α : Type} {f : α → V} {l : List α} {i : Nat} {x : V} (h : (l.map f)[i]? = some x) : i < l.length := by
  have := (List.getElem?_eq_some_iff.mp h).1
  simpa using this
/-- the outer for of a comprehension with two: over any walk -/
theorem outer_it {J : It} {n : Nat} {G : Hp → Prop} {Y : Nat → Hp → V → Hp → Prop} (w : Walk J n G Y) {H1 : Hp} {D : Addr} {Qd : Hp → Prop} {B : (Hp → Prop) → V → Hp → Prop} (Pv : Nat → Hp → Prop) (h0 : Pv 0 (upd H1 D (HO.lst []))) (hG : ∀ i H, i ≤ n → Pv i H → G H)
    (hs : ∀ i x H H', i < n → Pv i H → Y i H x H' → B (Pv (i + 1)) x H') (hd : ∀ H, Pv n H → Qd H) :
    ∃ W : Nat → Nat → Hp → Prop, (∃ m, W 0 m (upd H1 D (HO.lst []))) ∧ ∀ i m H, W i m H → (J.stop i H ∧ Qd H) ∨ (J.go i H ∧ ∃ Nx : Hp → Prop, (∀ H', Nx H' → ∃ m', m' < m ∧ W (i + 1) m' H') ∧ ∀ x H', J.yld i H x H' → B Nx x H') := by
  refine ⟨fun i m H => m = n - i ∧ i ≤ n ∧ Pv i H, ⟨n, by simp, Nat.zero_le _, h0⟩, ?_⟩
  rintro i m H ⟨rfl, hi, p⟩
  have q := hG i H hi p
  by_cases hlt : i < n
  · exact .inr ⟨w.goes i H hlt q, Pv (i + 1), fun H' p' => ⟨n - (i + 1), by omega, rfl, hlt, p'⟩, fun x H' y => hs i x H H' hlt p (w.yields i H x H' hlt q y)⟩
  · have e : i = n := by omega
    subst e
    exact .inl ⟨w.stops H q, hd H p⟩
def BL (bs : List Bool) : List V := bs.map V.bl
def IL (ns : List Int) : List V := ns.map V.int
theorem flat_bl (bs : List Bool) : (BL bs).all flatV = true := List.all_eq_true.mpr fun x hx => by
  obtain ⟨b, _, rfl⟩ := List.mem_map.mp hx
  rfl
theorem flat_il (bs : List Int) : (IL bs).all flatV = true := List.all_eq_true.mpr fun x hx => by
  obtain ⟨b, _, rfl⟩ := List.mem_map.mp hx
  rfl
theorem dp_bl {K : PySem.W.Frag} {H : Hp} : ∀ bs : List Bool, DpAll K H (BL bs) (bs.map PyData.bool)
  | [] => .nil
  | b :: bs => .cons (.bl b) (dp_bl bs)
theorem dp_il {K : PySem.W.Frag} {H : Hp} : ∀ bs : List Int, DpAll K H (IL bs) (bs.map PyData.int)
  | [] => .nil
  | b :: bs => .cons (.int b) (dp_il bs)
theorem eqv_bl : ∀ bs cs : List Bool, PyData.eqvAll (bs.map PyData.bool) (cs.map PyData.bool) = decide (bs = cs)
  | [], [] => by simp [PyData.eqvAll]
  | [], c :: cs => by simp [PyData.eqvAll]
  | b :: bs, [] => by simp [PyData.eqvAll]
  | b :: bs, c :: cs => by
    simp only [List.map_cons, PyData.eqvAll, PyData.eqv]
    rw [eqv_bl bs cs]
    by_cases h1 : b = c <;> by_cases h2 : bs = cs <;> simp [h1, h2]
theorem eqv_il : ∀ bs cs : List Int, PyData.eqvAll (bs.map PyData.int) (cs.map PyData.int) = decide (bs = cs)
  | [], [] => by simp [PyData.eqvAll]
  | [], c :: cs => by simp [PyData.eqvAll]
  | b :: bs, [] => by simp [PyData.eqvAll]
  | b :: bs, c :: cs => by
    simp only [List.map_cons, PyData.eqvAll, PyData.eqv]
    rw [eqv_il bs cs]
    by_cases h1 : b = c <;> by_cases h2 : bs = cs <;> simp [h1, h2]
theorem eqv_lbl (bs cs : List Bool) : PyData.eqv (.list (bs.map PyData.bool)) (.list (cs.map PyData.bool)) = decide (bs = cs) := by
  simp only [PyData.eqv]
  exact eqv_bl bs cs
theorem eqv_lil (bs cs : List Int) : PyData.eqv (.list (bs.map PyData.int)) (.list (cs.map PyData.int)) = decide (bs = cs) := by
  simp only [PyData.eqv]
  exact eqv_il bs cs
theorem lay_bl : ∀ bs : List Bool, PyData.canLayAll0 (bs.map PyData.bool) = true ∧ PyData.depthAll (bs.map PyData.bool) = 0
  | [] => ⟨rfl, rfl⟩
  | b :: bs => by
    obtain ⟨h1, h2⟩ := lay_bl bs
    simp [PyData.canLayAll0, PyData.canLay0, PyData.depthAll, PyData.depth, h1, h2]
theorem lay_il : ∀ bs : List Int, PyData.canLayAll0 (bs.map PyData.int) = true ∧ PyData.depthAll (bs.map PyData.int) = 0
  | [] => ⟨rfl, rfl⟩
  | b :: bs => by
    obtain ⟨h1, h2⟩ := lay_il bs
    simp [PyData.canLayAll0, PyData.canLay0, PyData.depthAll, PyData.depth, h1, h2]
theorem shaped_bl (bs : List Bool) : SeqAt.shaped (.list (bs.map PyData.bool)) = true := by
  simp [SeqAt.shaped, PyData.canLay0, PyData.depth, (lay_bl bs).1, (lay_bl bs).2]
theorem shaped_il (bs : List Int) : SeqAt.shaped (.list (bs.map PyData.int)) = true := by
  simp [SeqAt.shaped, PyData.canLay0, PyData.depth, (lay_il bs).1, (lay_il bs).2]
theorem in_il (k : Int) : ∀ ns : List Int, inV (.int k) (IL ns) = decide (k ∈ ns)
  | [] => rfl
  | n :: ns => by
    have ih := in_il k ns
    unfold inV at ih ⊢
    show (eqV (V.int n) (V.int k) || (IL ns).any _) = _
    rw [ih]
    have e : eqV (V.int n) (V.int k) = decide (k = n) := by
      by_cases h : k = n
      · subst h; simp [eqV]
      · simp [eqV, h, Ne.symm h]
    rw [e]
    by_cases h1 : k = n <;> by_cases h2 : k ∈ ns <;> simp [h1, h2]
theorem cut_nat {xs : List V} {i j : Nat} (hi : i ≤ xs.length) (hj : j ≤ xs.length) : cutV xs (some (i : Int)) (some (j : Int)) = (xs.drop i).take (j - i) := by
  unfold cutV
  rw [HT.sIx_nat, HT.sIx_nat, Nat.min_eq_left hi, Nat.min_eq_left hj]
theorem cut_from {xs : List V} {i : Nat} (hi : i ≤ xs.length) : cutV xs (some (i : Int)) none = xs.drop i := by
  unfold cutV
  rw [HT.sIx_nat, HT.sIx_none, Nat.min_eq_left hi, List.take_of_length_le]
  rw [List.length_drop]
  omega
theorem cut_to {xs : List V} {j : Nat} (hj : j ≤ xs.length) : cutV xs none (some (j : Int)) = xs.take j := by
  unfold cutV
  rw [HT.sIx_nat, HT.sIx_none, Nat.min_eq_left hj, List.drop_zero, Nat.sub_zero]
/-- a copy, all of it new -/
def spCopy (n : Nat) : Sp := fun vs H Q _ => ∃ (d : PyData) (v : V) (as : List Addr), vs = [v] ∧ Own H d v as ∧ d.depth ≤ n ∧ nodes d ≤ 1000000 ∧ ∀ H' v' bs, Same H H' → Own H' d v' bs → New H bs → bs.Nodup → Q v' H'
theorem flat_kind {K : PySem.W.Frag} {H : Hp} {d : PyData} {v : V} {as : List Addr} (h : Own H d v as) (hn : d.depth = 0) : ∃ t, TyX K H v t ∧ PySem.W.kitOne K t (.type "list") = some false ∧ PySem.W.kitOne K t (.type "tuple") = some false := by
  have two : ∀ T : String, kitB T "list" = some false → kitB T "tuple" = some false → PySem.W.kitOne K (.type T) (.type "list") = some false ∧ PySem.W.kitOne K (.type T) (.type "tuple") = some false := fun T h1 h2 => ⟨kit_ty h1, kit_ty h2⟩
  cases d with
  | none => obtain ⟨rfl, _⟩ := h; exact ⟨_, .base .non, two "NoneType" (by decide +kernel) (by decide +kernel)⟩
  | bool b => obtain ⟨rfl, _⟩ := h; exact ⟨_, .base (.bl b), two "bool" (by decide +kernel) (by decide +kernel)⟩
  | int i => obtain ⟨rfl, _⟩ := h; exact ⟨_, .base (.int i), two "int" (by decide +kernel) (by decide +kernel)⟩
  | str x => obtain ⟨rfl, _⟩ := h; exact ⟨_, .base (.str x), two "str" (by decide +kernel) (by decide +kernel)⟩
  | list ds => simp only [PyData.depth] at hn; omega
  | tuple ds => simp only [PyData.depth] at hn; omega
  | dict ds => exact h.elim
theorem _root_.DL.Own.flat {H H' : Hp} {d : PyData} {v : V} {as : List Addr} (h : Own H d v as) (hn : d.depth = 0) : Own H' d v [] := by
  cases d with
  | none => exact ⟨h.1, rfl⟩
  | bool b => exact ⟨h.1, rfl⟩
  | int i => exact ⟨h.1, rfl⟩
  | str x => exact ⟨h.1, rfl⟩
  | list ds => simp only [PyData.depth] at hn; omega
  | tuple ds => simp only [PyData.depth] at hn; omega
  | dict ds => exact h.elim
theorem own_ints {H : Hp} : ∀ ns : List Int, OwnAll H (ns.map PyData.int) (IL ns) []
  | [] => ⟨rfl, rfl⟩
  | n :: ns => ⟨_, _, [], [], rfl, ⟨rfl, rfl⟩, own_ints ns, rfl⟩
theorem ints_own {H : Hp} : ∀ {ns : List Int} {xs : List V} {as : List Addr}, OwnAll H (ns.map PyData.int) xs as → xs = IL ns ∧ as = []
  | [], xs, as, h => h
  | n :: ns, xs, as, ⟨v, vs, bs, cs, e1, ⟨e2, e3⟩, h, e4⟩ => by
    obtain ⟨h1, h2⟩ := ints_own (ns := ns) h
    subst e1 e2 e3 e4 h1 h2
    exact ⟨rfl, rfl⟩
theorem ints_depth : ∀ ns : List Int, PyData.depthAll (ns.map PyData.int) = 0
  | [] => rfl
  | n :: ns => by simp [PyData.depthAll, PyData.depth, ints_depth ns]
theorem ints_nodes : ∀ ns : List Int, nodesAll (ns.map PyData.int) = ns.length
  | [] => rfl
  | n :: ns => by
    simp only [List.map_cons, nodesAll, nodes, ints_nodes ns, List.length_cons]
    omega
section
variable {P : Program} {w : World} {K : PySem.W.Frag} {mg : Str → Option Value} {base : Heap}
structure TxtCopied (mg : Str → Option Value) (f : Addr) : Prop where
  isi : mg "isinstance" = none
  list : mg "list" = none
  tuple : mg "tuple" = none
  g : mg "copied" = some (.ref f)
theorem scCopied : FnScope ["thing", "part"] ["thing"] (defScope sCopied) := ⟨rfl, rfl, rfl, by decide +kernel, rfl, by decide +kernel, by decide +kernel⟩
theorem ok_Copied {f : Addr} {fd : FuncData} (F : Fun K "copied" "copied" sCopied f fd) (T : TxtCopied mg f) (b : Binds K fd ["thing"] []) : ∀ n, FnOk P w K mg base CX0 (n + 1) f fd ["thing"] (spCopy n)
  | 0 => by
    refine F.ok scCopied (fun vs H Q E h => ?_) (fun cdv A outer s H vs Q E hr h => ?_)
    · obtain ⟨d, v, as, rfl, _⟩ := h
      rfl
    · obtain ⟨d, v, as, rfl, hd, hn, hz, q⟩ := h
      refine ⟨_, pss_cons (ps_if (pt_val (pe_callB call_isi (by rfl) T.isi (by decide +kernel) (pa_cons (pv 0) (pa_cons (pe_bltn (v := .ty "list") (by rfl) T.list (by decide +kernel) rfl) pa_nil)))) (pss_one ps_never) pss_nil)
        (pss_cons (ps_if (pt_val (pe_callB call_isi (by rfl) T.isi (by decide +kernel) (pa_cons (pv 0) (pa_cons (pe_bltn (v := .ty "tuple") (by rfl) T.tuple (by decide +kernel) rfl) pa_nil)))) (pss_one ps_never) pss_nil) (pss_one (ps_ret (pv 0)))), ?_⟩
      obtain ⟨t, ty, a1, a2⟩ := flat_kind (K := K) hd (by omega)
      refine ⟨_, rfl, _, _, t, _, false, rfl, .ty _, ty, a1, _, rfl, iteF ?_⟩
      refine ⟨_, rfl, _, _, t, _, false, rfl, .ty _, ty, a2, _, rfl, iteF ?_⟩
      exact ⟨_, rfl, q H v [] (Same.refl _) (hd.flat (by omega)) (fun _ z => nomatch z) List.nodup_nil⟩
  | n + 1 => by
    have G := ok_Copied F T b n
    refine F.ok scCopied (fun vs H Q E h => ?_) (fun cdv A outer s H vs Q E hr h => ?_)
    · obtain ⟨d, v, as, rfl, _⟩ := h
      rfl
    · obtain ⟨d, v, as, rfl, hd, hn, hz, q⟩ := h
      refine ⟨_, pss_cons (ps_if (pt_val (pe_callB call_isi (by rfl) T.isi (by decide +kernel) (pa_cons (pv 0) (pa_cons (pe_bltn (v := .ty "list") (by rfl) T.list (by decide +kernel) rfl) pa_nil)))) (pss_one (ps_ret (pe_lc (own := [("part", 1)]) (g := gName 1) rfl scCopied.nd (pi_list (pv 0)) (blkOk_by (N := ["thing", "part"]) (sc := defScope sCopied) (by decide +kernel)) (fun _ _ _ _ _ => pg_name (i := 1) scCopied.nd rfl (Or.inl rfl)) (fun _ _ _ _ _ => pts_nil)
          (fun _ _ _ _ _ => pe_call G hr rfl T.g F.kp b .nil pass0 (pa_cons (pv 1) pa_nil))))) pss_nil)
        (pss_cons (ps_if (pt_val (pe_callB call_isi (by rfl) T.isi (by decide +kernel) (pa_cons (pv 0) (pa_cons (pe_bltn (v := .ty "tuple") (by rfl) T.tuple (by decide +kernel) rfl) pa_nil)))) (pss_one (ps_ret (pe_callTy call_tuple_of (by rfl) T.tuple (by decide +kernel) (pa_cons (pe_lc (own := [("part", 1)]) (g := gName 1) rfl scCopied.nd (pi_tup (pv 0)) (blkOk_by (N := ["thing", "part"]) (sc := defScope sCopied) (by decide +kernel)) (fun _ _ _ _ _ => pg_name (i := 1) scCopied.nd rfl (Or.inl rfl)) (fun _ _ _ _ _ => pts_nil)
          (fun _ _ _ _ _ => pe_call G hr rfl T.g F.kp b .nil pass0 (pa_cons (pv 1) pa_nil))) pa_nil)))) pss_nil) (pss_one (ps_ret (pv 0)))), ?_⟩
      by_cases h0 : d.depth = 0
      · obtain ⟨t, ty, a1, a2⟩ := flat_kind (K := K) hd h0
        refine ⟨_, rfl, _, _, t, _, false, rfl, .ty _, ty, a1, _, rfl, iteF ?_⟩
        refine ⟨_, rfl, _, _, t, _, false, rfl, .ty _, ty, a2, _, rfl, iteF ?_⟩
        exact ⟨_, rfl, q H v [] (Same.refl _) (hd.flat h0) (fun _ z => nomatch z) List.nodup_nil⟩
      cases d with
      | none => exact absurd rfl h0
      | bool _ => exact absurd rfl h0
      | int _ => exact absurd rfl h0
      | str _ => exact absurd rfl h0
      | dict _ => exact hd.elim
      | list ds =>
        obtain ⟨a, xs, bs, rfl, ha, hr, rfl⟩ := hd
        have hl : xs.length = ds.length := hr.len
        have hz2 : nodesAll ds + 1 ≤ 1000000 := hz
        have hln := len_nodes ds
        have dep : PyData.depthAll ds ≤ n := by
          simp only [PyData.depth] at hn
          omega
        refine ⟨_, rfl, _, _, _, _, true, rfl, .ty _, .base (.lst ha), kit_ty (by decide +kernel), _, rfl, iteT ?_⟩
        refine ⟨_, rfl, a, rfl, ⟨_, SqL.of ha⟩, fun D hD => ?_⟩
        refine lc_list (K := K) (a := a) (xs := xs) (fun i H' => ∃ vs cs, Filling H H' D (ds.take i) vs cs ∧ vs.length = i) ⟨_, _, Filling.start hD, rfl⟩ (fun i H' _ ⟨_, _, F, _⟩ => SqL.of (F.same _ _ ha)) ?_ ?_
        · rintro i x H' hi ⟨vs, cs, Fl, hvl⟩
          obtain ⟨d, ds', e1, e2, e3⟩ := hr.at hi
          have hil : i < xs.length := (List.getElem?_eq_some_iff.mp hi).1
          refine ⟨rfl, _, rfl, d, x, ds', rfl, e2.same Fl.same, Nat.le_trans (depth_at e1) dep, Nat.le_trans (nodes_at e1) (by omega), fun H2 v' bs2 sm ow nw nd2 => ?_⟩
          refine ⟨vs, sm _ _ Fl.at_, Nat.lt_of_lt_of_le (show vs.length < 1000001 by omega) (by decide), vs ++ [v'], cs ++ bs2, ?_, by rw [List.length_append, hvl]; rfl⟩
          rw [take_more e1]
          exact Fl.more hD sm ow nw nd2
        · rintro H' ⟨vs, cs, Fl, _⟩
          rw [hl, List.take_length] at Fl
          obtain ⟨z1, z2, z3⟩ := Fl.list hD
          exact q H' _ _ Fl.same z1 z2 z3
      | tuple ds =>
        obtain ⟨a, xs, bs, rfl, ha, hr, rfl⟩ := hd
        have hl : xs.length = ds.length := hr.len
        have hz2 : nodesAll ds + 1 ≤ 1000000 := hz
        have hln := len_nodes ds
        have dep : PyData.depthAll ds ≤ n := by
          simp only [PyData.depth] at hn
          omega
        refine ⟨_, rfl, _, _, _, _, false, rfl, .ty _, .base (.tup ha), kit_ty (by decide +kernel), _, rfl, iteF ?_⟩
        refine ⟨_, rfl, _, _, _, _, true, rfl, .ty _, .base (.tup ha), kit_ty (by decide +kernel), _, rfl, iteT ?_⟩
        refine ⟨_, rfl, a, rfl, ⟨_, SqT.of ha⟩, fun D hD => ?_⟩
        refine lc_tup (K := K) (a := a) (xs := xs) (fun i H' => ∃ vs cs, Filling H H' D (ds.take i) vs cs ∧ vs.length = i) ⟨_, _, Filling.start hD, rfl⟩ (fun i H' _ ⟨_, _, F, _⟩ => SqT.of (F.same _ _ ha)) ?_ ?_
        · rintro i x H' hi ⟨vs, cs, Fl, hvl⟩
          obtain ⟨d, ds', e1, e2, e3⟩ := hr.at hi
          have hil : i < xs.length := (List.getElem?_eq_some_iff.mp hi).1
          refine ⟨rfl, _, rfl, d, x, ds', rfl, e2.same Fl.same, Nat.le_trans (depth_at e1) dep, Nat.le_trans (nodes_at e1) (by omega), fun H2 v' bs2 sm ow nw nd2 => ?_⟩
          refine ⟨vs, sm _ _ Fl.at_, Nat.lt_of_lt_of_le (show vs.length < 1000001 by omega) (by decide), vs ++ [v'], cs ++ bs2, ?_, by rw [List.length_append, hvl]; rfl⟩
          rw [take_more e1]
          exact Fl.more hD sm ow nw nd2
        · rintro H' ⟨vs, cs, Fl, _⟩
          rw [hl, List.take_length] at Fl
          refine ⟨D, vs, rfl, .inl ⟨SqL.of Fl.at_, fun p hp => ?_⟩⟩
          obtain ⟨z1, z2, z3, z4⟩ := Fl.tuple hp
          exact q _ _ _ z4 z1 z2 z3
structure TxtLCopy (mg : Str → Option Value) (f : Addr) : Prop where
  isi : mg "isinstance" = none
  list : mg "list" = none
  tuple : mg "tuple" = none
  g : mg "_law_hd_copy" = some (.ref f)
theorem scLCopy : FnScope ["_law_thing", "_law_part"] ["_law_thing"] (defScope sLCopy) := ⟨rfl, rfl, rfl, by decide +kernel, rfl, by decide +kernel, by decide +kernel⟩
theorem ok_LCopy {f : Addr} {fd : FuncData} (F : Fun K "_law_hd_copy" "_law_hd_copy" sLCopy f fd) (T : TxtLCopy mg f) (b : Binds K fd ["_law_thing"] []) : ∀ n, FnOk P w K mg base CX0 (n + 1) f fd ["_law_thing"] (spCopy n)
  | 0 => by
    refine F.ok scLCopy (fun vs H Q E h => ?_) (fun cdv A outer s H vs Q E hr h => ?_)
    · obtain ⟨d, v, as, rfl, _⟩ := h
      rfl
    · obtain ⟨d, v, as, rfl, hd, hn, hz, q⟩ := h
      refine ⟨_, pss_cons (ps_if (pt_val (pe_callB call_isi (by rfl) T.isi (by decide +kernel) (pa_cons (pv 0) (pa_cons (pe_bltn (v := .ty "list") (by rfl) T.list (by decide +kernel) rfl) pa_nil)))) (pss_one ps_never) pss_nil)
        (pss_cons (ps_if (pt_val (pe_callB call_isi (by rfl) T.isi (by decide +kernel) (pa_cons (pv 0) (pa_cons (pe_bltn (v := .ty "tuple") (by rfl) T.tuple (by decide +kernel) rfl) pa_nil)))) (pss_one ps_never) pss_nil) (pss_one (ps_ret (pv 0)))), ?_⟩
      obtain ⟨t, ty, a1, a2⟩ := flat_kind (K := K) hd (by omega)
      refine ⟨_, rfl, _, _, t, _, false, rfl, .ty _, ty, a1, _, rfl, iteF ?_⟩
      refine ⟨_, rfl, _, _, t, _, false, rfl, .ty _, ty, a2, _, rfl, iteF ?_⟩
      exact ⟨_, rfl, q H v [] (Same.refl _) (hd.flat (by omega)) (fun _ z => nomatch z) List.nodup_nil⟩
  | n + 1 => by
    have G := ok_LCopy F T b n
    refine F.ok scLCopy (fun vs H Q E h => ?_) (fun cdv A outer s H vs Q E hr h => ?_)
    · obtain ⟨d, v, as, rfl, _⟩ := h
      rfl
    · obtain ⟨d, v, as, rfl, hd, hn, hz, q⟩ := h
      refine ⟨_, pss_cons (ps_if (pt_val (pe_callB call_isi (by rfl) T.isi (by decide +kernel) (pa_cons (pv 0) (pa_cons (pe_bltn (v := .ty "list") (by rfl) T.list (by decide +kernel) rfl) pa_nil)))) (pss_one (ps_ret (pe_lc (own := [("_law_part", 1)]) (g := gName 1) rfl scLCopy.nd (pi_list (pv 0)) (blkOk_by (N := ["_law_thing", "_law_part"]) (sc := defScope sLCopy) (by decide +kernel)) (fun _ _ _ _ _ => pg_name (i := 1) scLCopy.nd rfl (Or.inl rfl)) (fun _ _ _ _ _ => pts_nil)
          (fun _ _ _ _ _ => pe_call G hr rfl T.g F.kp b .nil pass0 (pa_cons (pv 1) pa_nil))))) pss_nil)
        (pss_cons (ps_if (pt_val (pe_callB call_isi (by rfl) T.isi (by decide +kernel) (pa_cons (pv 0) (pa_cons (pe_bltn (v := .ty "tuple") (by rfl) T.tuple (by decide +kernel) rfl) pa_nil)))) (pss_one (ps_ret (pe_callTy call_tuple_of (by rfl) T.tuple (by decide +kernel) (pa_cons (pe_lc (own := [("_law_part", 1)]) (g := gName 1) rfl scLCopy.nd (pi_tup (pv 0)) (blkOk_by (N := ["_law_thing", "_law_part"]) (sc := defScope sLCopy) (by decide +kernel)) (fun _ _ _ _ _ => pg_name (i := 1) scLCopy.nd rfl (Or.inl rfl)) (fun _ _ _ _ _ => pts_nil)
          (fun _ _ _ _ _ => pe_call G hr rfl T.g F.kp b .nil pass0 (pa_cons (pv 1) pa_nil))) pa_nil)))) pss_nil) (pss_one (ps_ret (pv 0)))), ?_⟩
      by_cases h0 : d.depth = 0
      · obtain ⟨t, ty, a1, a2⟩ := flat_kind (K := K) hd h0
        refine ⟨_, rfl, _, _, t, _, false, rfl, .ty _, ty, a1, _, rfl, iteF ?_⟩
        refine ⟨_, rfl, _, _, t, _, false, rfl, .ty _, ty, a2, _, rfl, iteF ?_⟩
        exact ⟨_, rfl, q H v [] (Same.refl _) (hd.flat h0) (fun _ z => nomatch z) List.nodup_nil⟩
      cases d with
      | none => exact absurd rfl h0
      | bool _ => exact absurd rfl h0
      | int _ => exact absurd rfl h0
      | str _ => exact absurd rfl h0
      | dict _ => exact hd.elim
      | list ds =>
        obtain ⟨a, xs, bs, rfl, ha, hr, rfl⟩ := hd
        have hl : xs.length = ds.length := hr.len
        have hz2 : nodesAll ds + 1 ≤ 1000000 := hz
        have hln := len_nodes ds
        have dep : PyData.depthAll ds ≤ n := by
          simp only [PyData.depth] at hn
          omega
        refine ⟨_, rfl, _, _, _, _, true, rfl, .ty _, .base (.lst ha), kit_ty (by decide +kernel), _, rfl, iteT ?_⟩
        refine ⟨_, rfl, a, rfl, ⟨_, SqL.of ha⟩, fun D hD => ?_⟩
        refine lc_list (K := K) (a := a) (xs := xs) (fun i H' => ∃ vs cs, Filling H H' D (ds.take i) vs cs ∧ vs.length = i) ⟨_, _, Filling.start hD, rfl⟩ (fun i H' _ ⟨_, _, F, _⟩ => SqL.of (F.same _ _ ha)) ?_ ?_
        · rintro i x H' hi ⟨vs, cs, Fl, hvl⟩
          obtain ⟨d, ds', e1, e2, e3⟩ := hr.at hi
          have hil : i < xs.length := (List.getElem?_eq_some_iff.mp hi).1
          refine ⟨rfl, _, rfl, d, x, ds', rfl, e2.same Fl.same, Nat.le_trans (depth_at e1) dep, Nat.le_trans (nodes_at e1) (by omega), fun H2 v' bs2 sm ow nw nd2 => ?_⟩
          refine ⟨vs, sm _ _ Fl.at_, Nat.lt_of_lt_of_le (show vs.length < 1000001 by omega) (by decide), vs ++ [v'], cs ++ bs2, ?_, by rw [List.length_append, hvl]; rfl⟩
          rw [take_more e1]
          exact Fl.more hD sm ow nw nd2
        · rintro H' ⟨vs, cs, Fl, _⟩
          rw [hl, List.take_length] at Fl
          obtain ⟨z1, z2, z3⟩ := Fl.list hD
          exact q H' _ _ Fl.same z1 z2 z3
      | tuple ds =>
        obtain ⟨a, xs, bs, rfl, ha, hr, rfl⟩ := hd
        have hl : xs.length = ds.length := hr.len
        have hz2 : nodesAll ds + 1 ≤ 1000000 := hz
        have hln := len_nodes ds
        have dep : PyData.depthAll ds ≤ n := by
          simp only [PyData.depth] at hn
          omega
        refine ⟨_, rfl, _, _, _, _, false, rfl, .ty _, .base (.tup ha), kit_ty (by decide +kernel), _, rfl, iteF ?_⟩
        refine ⟨_, rfl, _, _, _, _, true, rfl, .ty _, .base (.tup ha), kit_ty (by decide +kernel), _, rfl, iteT ?_⟩
        refine ⟨_, rfl, a, rfl, ⟨_, SqT.of ha⟩, fun D hD => ?_⟩
        refine lc_tup (K := K) (a := a) (xs := xs) (fun i H' => ∃ vs cs, Filling H H' D (ds.take i) vs cs ∧ vs.length = i) ⟨_, _, Filling.start hD, rfl⟩ (fun i H' _ ⟨_, _, F, _⟩ => SqT.of (F.same _ _ ha)) ?_ ?_
        · rintro i x H' hi ⟨vs, cs, Fl, hvl⟩
          obtain ⟨d, ds', e1, e2, e3⟩ := hr.at hi
          have hil : i < xs.length := (List.getElem?_eq_some_iff.mp hi).1
          refine ⟨rfl, _, rfl, d, x, ds', rfl, e2.same Fl.same, Nat.le_trans (depth_at e1) dep, Nat.le_trans (nodes_at e1) (by omega), fun H2 v' bs2 sm ow nw nd2 => ?_⟩
          refine ⟨vs, sm _ _ Fl.at_, Nat.lt_of_lt_of_le (show vs.length < 1000001 by omega) (by decide), vs ++ [v'], cs ++ bs2, ?_, by rw [List.length_append, hvl]; rfl⟩
          rw [take_more e1]
          exact Fl.more hD sm ow nw nd2
        · rintro H' ⟨vs, cs, Fl, _⟩
          rw [hl, List.take_length] at Fl
          refine ⟨D, vs, rfl, .inl ⟨SqL.of Fl.at_, fun p hp => ?_⟩⟩
          obtain ⟨z1, z2, z3, z4⟩ := Fl.tuple hp
          exact q _ _ _ z4 z1 z2 z3
end
end K09

set_option Elab.async false
set_option linter.all false
set_option maxRecDepth 100000
set_option maxHeartbeats 4000000
set_option exponentiation.threshold 5000
namespace K09
open PySem L2 DL PySem.HouseX CM
/-! ### data of ints alone -/
mutual
def IntD : PyData → Prop
  | .int _ => True
  | .list ds => IntDs ds
  | .tuple ds => IntDs ds
  | _ => False
def IntDs : List PyData → Prop
  | [] => True
  | d :: ds => IntD d ∧ IntDs ds
end
mutual
theorem eqv_intD : ∀ {d e : PyData}, IntD d → IntD e → (PyData.eqv d e = true ↔ d = e)
  | .int i, .int j, _, _ => by simp [PyData.eqv]
  | .list ds, .list es, h, g => by
    have q := eqv_intDs (ds := ds) (es := es) h g
    simp only [PyData.eqv, PyData.list.injEq]
    exact q
  | .tuple ds, .tuple es, h, g => by
    have q := eqv_intDs (ds := ds) (es := es) h g
    simp only [PyData.eqv, PyData.tuple.injEq]
    exact q
  | .int _, .list _, _, _ => by simp [PyData.eqv]
  | .int _, .tuple _, _, _ => by simp [PyData.eqv]
  | .list _, .int _, _, _ => by simp [PyData.eqv]
  | .list _, .tuple _, _, _ => by simp [PyData.eqv]
  | .tuple _, .int _, _, _ => by simp [PyData.eqv]
  | .tuple _, .list _, _, _ => by simp [PyData.eqv]
theorem eqv_intDs : ∀ {ds es : List PyData}, IntDs ds → IntDs es → (PyData.eqvAll ds es = true ↔ ds = es)
  | [], [], _, _ => by simp [PyData.eqvAll]
  | [], _ :: _, _, _ => by simp [PyData.eqvAll]
  | _ :: _, [], _, _ => by simp [PyData.eqvAll]
  | d :: ds, e :: es, h, g => by
    have q := eqv_intD (d := d) (e := e) h.1 g.1
    have r := eqv_intDs (ds := ds) (es := es) h.2 g.2
    simp only [PyData.eqvAll, Bool.and_eq_true, List.cons.injEq]
    rw [q, r]
end
mutual
theorem lay_intD : ∀ {d : PyData}, IntD d → d.canLay0 = true
  | .int _, _ => rfl
  | .list ds, h => lay_intDs (ds := ds) h
  | .tuple ds, h => lay_intDs (ds := ds) h
theorem lay_intDs : ∀ {ds : List PyData}, IntDs ds → PyData.canLayAll0 ds = true
  | [], _ => rfl
  | d :: ds, h => by simp [PyData.canLayAll0, lay_intD h.1, lay_intDs h.2]
end
theorem intDs_iff {ds : List PyData} : IntDs ds ↔ ∀ d ∈ ds, IntD d := by
  induction ds with
  | nil => simp [IntDs]
  | cons d ds ih => simp [IntDs, ih]
theorem depthAll_le {ds : List PyData} {n : Nat} : PyData.depthAll ds ≤ n ↔ ∀ d ∈ ds, d.depth ≤ n := by
  induction ds with
  | nil => simp [PyData.depthAll]
  | cons d ds ih =>
    simp only [PyData.depthAll, List.mem_cons, forall_eq_or_imp]
    rw [← ih]
    omega
theorem shaped_intL {ds : List PyData} (h : IntDs ds) (n : PyData.depthAll ds ≤ 20) : SeqAt.shaped (.list ds) = true := by
  have h1 : (PyData.list ds).depth ≤ 64 := by
    simp only [PyData.depth]
    omega
  have h2 : (PyData.list ds).canLay0 = true := lay_intDs h
  unfold SeqAt.shaped
  rw [h2, decide_eq_true h1]
  rfl
theorem dpAll_len {K : PySem.W.Frag} {H : Hp} : ∀ {xs : List V} {ds : List PyData}, DpAll K H xs ds → xs.length = ds.length
  | [], [], .nil => rfl
  | _ :: xs, _ :: ds, .cons _ r => congrArg Nat.succ (dpAll_len r)
theorem dpAll_drop {K : PySem.W.Frag} {H : Hp} : ∀ {xs : List V} {ds : List PyData} (n : Nat), DpAll K H xs ds → DpAll K H (xs.drop n) (ds.drop n)
  | _, _, 0, h => h
  | [], [], _ + 1, .nil => .nil
  | _ :: _, _ :: _, n + 1, .cons _ r => dpAll_drop n r
theorem dpAll_take {K : PySem.W.Frag} {H : Hp} : ∀ {xs : List V} {ds : List PyData} (n : Nat), DpAll K H xs ds → DpAll K H (xs.take n) (ds.take n)
  | _, _, 0, _ => .nil
  | [], [], _ + 1, .nil => .nil
  | _ :: _, _ :: _, n + 1, .cons h r => .cons h (dpAll_take n r)
theorem sqL_same {K : PySem.W.Frag} {H H' : Hp} {a : Addr} {xs : List V} (k : Same H H') (h : SqL K H a xs) : SqL K H' a xs := k.seq h
mutual
theorem dp_same {K : PySem.W.Frag} {H H' : Hp} (k : Same H H') : ∀ {d : PyData} {v : V}, Dp K H v d → Dp K H' v d
  | _, _, .non => .non
  | _, _, .bl b => .bl b
  | _, _, .int i => .int i
  | _, _, .str x => .str x
  | _, _, .lst s r => .lst (k.seq s) (dpAll_same k r)
  | _, _, .tup s r => .tup (s.elim (fun h => .inl (h.elim (fun h => .inl (k _ _ h)) fun ⟨o, h⟩ => .inr ⟨o, k _ _ h⟩)) fun h => .inr h) (dpAll_same k r)
theorem dpAll_same {K : PySem.W.Frag} {H H' : Hp} (k : Same H H') : ∀ {ds : List PyData} {xs : List V}, DpAll K H xs ds → DpAll K H' xs ds
  | _, _, .nil => .nil
  | _, _, .cons h r => .cons (dp_same k h) (dpAll_same k r)
end
/-! ### places of a state -/
def modI : List Nat → List Int → List Nat
  | m :: ms, a :: st => (a % m).toNat :: modI ms st
  | _, _ => []
def hor : Int → List Nat → List Int → Int
  | acc, m :: ms, a :: st => hor (acc * m + a % m) ms st
  | acc, _, _ => acc
theorem hor_eq : ∀ {ms : List Nat} {st : List Int} {acc : Int}, (∀ m ∈ ms, 0 < m) → st.length = ms.length → hor acc ms st = acc * (FM.vol ms : Int) + (FM.plc ms (modI ms st) : Int)
  | [], [], acc, _, _ => by simp [hor, FM.vol, FM.plc]
  | m :: ms, a :: st, acc, h, e => by
    have m0 := h m List.mem_cons_self
    have ih := hor_eq (ms := ms) (st := st) (acc := acc * m + a % m) (fun x hx => h x (List.mem_cons_of_mem _ hx)) (Nat.succ.inj e)
    have z : ((a % (m : Int)).toNat : Int) = a % m := Int.toNat_of_nonneg (Int.emod_nonneg _ (by omega))
    show hor (acc * m + a % m) ms st = _
    rw [ih]
    simp only [FM.vol, FM.plc, modI]
    rw [Int.natCast_mul, Int.natCast_add, Int.natCast_mul, z, Int.add_mul, Int.mul_assoc, Int.add_assoc]
  | [], _ :: _, _, _, e => nomatch e
  | _ :: _, [], _, _, e => nomatch e
theorem modI_rest : ∀ {ms : List Nat} {st : List Int}, (∀ m ∈ ms, 0 < m) → st.length = ms.length → FM.Rest ms (modI ms st)
  | [], [], _, _ => trivial
  | m :: ms, a :: st, h, e => by
    have m0 := h m List.mem_cons_self
    refine ⟨?_, modI_rest (fun x hx => h x (List.mem_cons_of_mem _ hx)) (Nat.succ.inj e)⟩
    have z1 := Int.emod_lt_of_pos a (show (0 : Int) < m by omega)
    have z2 := Int.emod_nonneg a (show (m : Int) ≠ 0 by omega)
    show (a % (m : Int)).toNat < m
    omega
  | [], _ :: _, _, e => nomatch e
  | _ :: _, [], _, e => nomatch e
def NL (ns : List Nat) : List V := ns.map fun n : Nat => V.int n
def spProd (K : PySem.W.Frag) : Sp := fun vs H Q _ => ∃ (a : Addr) (ns : List Nat), vs = [.ref a] ∧ SqL K H a (NL ns) ∧ (∀ n ∈ ns, 0 < n) ∧ FM.vol ns < 1000000 ∧ Q (.int (FM.vol ns : Nat)) H
theorem vol_take {ns : List Nat} (h : ∀ n ∈ ns, 0 < n) : ∀ i, FM.vol (ns.take i) ≤ FM.vol ns := fun i => by
  have e := FM.vol_app (ns.take i) (ns.drop i)
  rw [List.take_append_drop] at e
  rw [e]
  exact Nat.le_mul_of_pos_right _ (FM.vol_pos fun x hx => h x (List.mem_of_mem_drop hx))
theorem vol_snoc {ns : List Nat} {i : Nat} (h : i < ns.length) : FM.vol (ns.take (i + 1)) = FM.vol (ns.take i) * ns.getD i 0 := by
  rw [List.take_add_one, FM.vol_app, List.getD_eq_getElem?_getD, List.getElem?_eq_getElem h]
  simp [FM.vol]
def spPlaceOf (K : PySem.W.Frag) : Sp := fun vs H Q _ => ∃ (a b : Addr) (ms : List Nat) (st : List Int), vs = [.ref a, .ref b] ∧ SqT K H a (NL ms) ∧ SqL K H b (IL st) ∧ (∀ m ∈ ms, 0 < m) ∧ st.length = ms.length ∧ FM.vol ms < 1000000 ∧ (∀ x ∈ st, x.natAbs < 2 ^ 60) ∧ ∀ H', Same H H' → Q (.int (FM.plc ms (modI ms st) : Nat)) H'
def spComes (K : PySem.W.Frag) : Sp := fun vs H Q _ => ∃ (a : Addr) (xs : List V) (ds : List PyData) (n b s : Nat), vs = [.ref a, .int b, .int s] ∧ H a = some (.lst xs) ∧ DpAll K H xs ds ∧ IntDs ds ∧ PyData.depthAll ds ≤ 20 ∧ 0 < s ∧ s ≤ b ∧ ds.length = n * b ∧ n * b < 1000000 ∧ b < 1000000 ∧ ∀ H' B, Same H H' → (B = true ↔ FM.Again ds b s) → Q (.bl B) H'
structure TxtG2 (mg : Str → Option Value) : Prop where
  all : mg "all" = none
  len : mg "len" = none
  range : mg "range" = none
theorem rgC_n {b n : Nat} (h : 0 < b) (h2 : n * b < 1000000) (hb : b < 1000000) : RgC 0 ((n * b : Nat) : Int) (b : Int) n := by
  have nn : n ≤ n * b := Nat.le_mul_of_pos_right _ h
  have e : Builtin.Range.rangeSize 0 ((n * b : Nat) : Int) (b : Int) = n := by
    unfold Builtin.Range.rangeSize
    rw [if_pos (by omega)]
    by_cases z : n = 0
    · subst z
      simp
    · have p : 0 < n * b := Nat.mul_pos (by omega) h
      rw [if_pos (by omega)]
      have : (((n * b : Nat) : Int) - 0 - 1) / (b : Int) = ((n - 1 : Nat) : Int) := by
        have e1 : ((n * b : Nat) : Int) - 0 - 1 = ((b - 1 : Nat) : Int) + ((n - 1 : Nat) : Int) * (b : Int) := by
          have : n * b = (n - 1) * b + b := by
            conv => lhs; rw [show n = (n - 1) + 1 by omega, Nat.succ_mul]
          rw [← Int.natCast_mul]
          omega
        rw [e1, Int.add_mul_ediv_right _ _ (by omega), Int.ediv_eq_zero_of_lt (by omega) (by omega)]
        omega
      rw [this]
      omega
  refine ⟨by omega, by omega, ?_, e⟩
  have f : ∀ i : Int, -1000001 ≤ i → i ≤ 3000000 → Builtin.Range.rangeFitsLong i = true := fun i h1 h2 => by
    unfold Builtin.Range.rangeFitsLong
    simp only [Bool.and_eq_true, decide_eq_true_eq]
    omega
  unfold Builtin.Range.small
  rw [e, f 0 (by decide) (by decide), f b (by omega) (by omega), f ((n * b : Nat) : Int) (by omega) (by omega), f (n : Int) (by omega) (by omega), if_pos (by omega)]
  simp only [Bool.true_and, Bool.and_true, Bool.or_eq_true]
  right
  exact f _ (by omega) (by omega)
def spPrimes : Sp := fun vs H Q _ => ∃ n : Nat, vs = [.int n] ∧ 0 < n ∧ n < 1000000 ∧ ∀ H' p ps, Same H H' → H p = none → H' p = some (.lst (ps.map fun x : Nat => V.int x)) → PrimesOf ps n → ps.length ≤ 1000000 → Q (.ref p) H'

section
variable {P : Program} {w : World} {K : PySem.W.Frag} {mg : Str → Option Value} {base : Heap}
theorem scPrimes : FnScope ["number", "found", "factor"] ["number"] (defScope sPrimes) := ⟨rfl, rfl, rfl, by decide +kernel, rfl, by decide +kernel, by decide +kernel⟩
theorem ok_primes {f : Addr} {fd : FuncData} (F : Fun K "prime_factors" "prime_factors" sPrimes f fd) : FnOk P w K mg base CX0 1 f fd ["number"] spPrimes := by
  have nd := scPrimes.nd
  refine F.ok scPrimes (fun vs H Q E h => ?_) (fun cdv A outer s H vs Q E hr h => ?_)
  · obtain ⟨n, rfl, _⟩ := h
    rfl
  · obtain ⟨n0, rfl, n1, n2, q⟩ := h
    refine ⟨_, pss_cons (ps_set (i := 1) nd rfl (Or.inl rfl) (pe_lst pa_nil)) (pss_cons (ps_set (i := 2) nd rfl (Or.inl rfl) pe_int)
      (pss_cons (ps_while PassesOwn.never (pt_cmpR op_le (pe_op op_mul (pv 2) (pv 2)) (pv 0) (nomark _))
        (pss_cons (ps_while PassesOwn.never (pt_cmpR op_eq (pe_op op_modN (pv 0) (pv 2)) pe_int (nomark _))
          (pss_cons (ps_expr (pe_bm PySem.F.plainAttrs_list PySem.F.slot_list_append PySem.F.type_list_append mt_append (pv 1) (pa_cons (pv 2) pa_nil)))
          (pss_one (ps_set (i := 0) nd rfl (Or.inl rfl) (pe_op op_fdivN (pv 0) (pv 2))))))
        (pss_one (ps_aug (i := 2) nd rfl (.inl rfl) pe_int ip_add))))
      (pss_one (ps_ret (pe_ifExp (pt_cmpR op_gt (pv 0) pe_int (nomark _)) (pe_op op_cat (pv 1) (pe_lst (pa_cons (pv 0) pa_nil))) (pv 1)))))), ?_⟩
    refine ⟨Nat.zero_le _, fun l hl => ?_⟩
    have s0 := same_new (o := .lst []) hl
    refine ⟨fun k σ H' => ∃ (found : List Nat) (fa n : Nat), σ = [some (.int n), some (.ref l), some (.int fa)] ∧ Same H H' ∧ H' l = some (.lst (found.map fun x : Nat => V.int x)) ∧ Sieve n0 found fa n ∧ found.length + n ≤ n0 ∧ fa ≤ 1001 ∧ k = 1002 - fa, ⟨_, [], 2, n0, rfl, s0, upd_same, Sieve.start n1, by simp, by decide, rfl⟩, ?_⟩
    rintro k σ H1 ⟨found, fa, n, rfl, sm, hl1, S, hlen, hfa, rfl⟩
    refine ⟨_, rfl, _, rfl, _, _, rfl, rfl, .inl ⟨by omega, by omega⟩, _, rfl, _, _, rfl, rfl, _, rfl, ite2 (fun hc => ?_) (fun hc => ?_)⟩
    · have hc1 : (fa : Int) * fa ≤ n := of_decide_eq_true hc
      have hc2 : fa * fa ≤ n := by exact_mod_cast hc1
      have fa0 : fa ≤ 1000 := by
        by_cases z : fa ≤ 1000
        · exact z
        · have := Nat.mul_le_mul (show 1001 ≤ fa by omega) (show 1001 ≤ fa by omega)
          omega
      refine ⟨fun σ H' => ∃ (found : List Nat) (n : Nat), σ = [some (.int n), some (.ref l), some (.int ((fa + 1 : Nat) : Int))] ∧ Same H H' ∧ H' l = some (.lst (found.map fun x : Nat => V.int x)) ∧ Sieve n0 found (fa + 1) n ∧ found.length + n ≤ n0, fun σ' H' ⟨found, n, h1, h2, h3, h4, h5⟩ => ⟨1002 - (fa + 1), by omega, found, fa + 1, n, h1, h2, h3, h4, h5, by omega, rfl⟩, ?_⟩
      refine ⟨fun k σ H' => ∃ (found : List Nat) (n : Nat), σ = [some (.int n), some (.ref l), some (.int fa)] ∧ Same H H' ∧ H' l = some (.lst (found.map fun x : Nat => V.int x)) ∧ Sieve n0 found fa n ∧ found.length + n ≤ n0 ∧ n = k, ⟨n, found, n, rfl, sm, hl1, S, hlen, rfl⟩, ?_⟩
      have f2 := S.two
      clear S hlen hl1 sm hc hc1 hc2
      rintro k σ H2 ⟨found, n, rfl, sm, hl1, S, hlen, rfl⟩
      have fm : ((n : Int)).fmod (fa : Int) = ((n % fa : Nat) : Int) := by
        rw [Int.fmod_eq_emod_of_nonneg _ (by omega)]
        rfl
      refine ⟨_, rfl, _, rfl, _, _, rfl, rfl, (show (fa : Int) ≠ 0 by omega), rfl, _, rfl, ?_⟩
      show if decide (V.int ((n : Int).fmod fa) = V.int 0) = true then _ else _
      refine ite2 (fun hd => ?_) (fun hd => ?_)
      · have hd1 : V.int ((n : Int).fmod fa) = V.int 0 := of_decide_eq_true hd
        have hd2 : n % fa = 0 := by
          have := V.int.inj hd1
          rw [fm] at this
          omega
        obtain ⟨S2, lt⟩ := S.take (Nat.dvd_of_mod_eq_zero hd2)
        have fd : ((n : Int)).fdiv (fa : Int) = ((n / fa : Nat) : Int) := by
          rw [Int.fdiv_eq_ediv_of_nonneg _ (by omega)]
          rfl
        refine ⟨fun σ H' => ∃ (found : List Nat), σ = [some (.int ((n / fa : Nat) : Int)), some (.ref l), some (.int fa)] ∧ Same H H' ∧ H' l = some (.lst (found.map fun x : Nat => V.int x)) ∧ Sieve n0 found fa (n / fa) ∧ found.length + n / fa ≤ n0, fun σ' H' ⟨found, h1, h2, h3, h4, h5⟩ => ⟨n / fa, lt, found, n / fa, h1, h2, h3, h4, h5, rfl⟩, ?_⟩
        refine ⟨_, rfl, .inl ⟨rfl, _, SqL.of hl1⟩, _, rfl, l, _, _, rfl, rfl, hl1, ?_, ?_⟩
        · rw [List.length_map]
          exact Nat.lt_of_lt_of_le (show found.length < 1000000 by omega) (by decide)
        refine ⟨_, rfl, _, rfl, _, _, rfl, rfl, ⟨by omega, by show (fa : Int).natAbs < _; omega⟩, ?_⟩
        refine ⟨found ++ [fa], by show [some (V.int ((n : Int).fdiv fa)), some (.ref l), some (.int fa)] = _; rw [fd], fun b o e => ?_, ?_, S2, by rw [List.length_append]; show found.length + 1 + n / fa ≤ n0; omega⟩
        · rw [upd_ne (ne_of_none e hl)]
          exact sm _ _ e
        · rw [upd_same, List.map_append]
          rfl
      · have hd2 : ¬ fa ∣ n := fun z => hd (decide_eq_true (by
          rw [fm, Nat.mod_eq_zero_of_dvd z] <;> rfl))
        refine ⟨_, rfl, _, _, rfl, rfl, ?_⟩
        exact ⟨found, n, rfl, sm, hl1, S.step hd2, hlen⟩
    · have hc2 : n < fa * fa := by
        by_cases z : n < fa * fa
        · exact z
        · exact absurd (decide_eq_true (by show (fa : Int) * fa ≤ n; exact_mod_cast (show fa * fa ≤ n by omega))) hc
      obtain ⟨e1, e2⟩ := S.end_ hc2
      refine ⟨_, rfl, _, _, rfl, rfl, _, rfl, ite2 (fun hd => ?_) (fun hd => ?_)⟩
      · have hd1 : 1 < n := by have := of_decide_eq_true hd; omega
        refine ⟨_, rfl, _, rfl, (by show 1 ≤ sizeLine; decide), fun p hp => ⟨_, _, _, _, rfl, rfl, (same_new hp) _ _ hl1, upd_same, ?_, fun p2 hp2 => ?_⟩⟩
        · rw [List.length_map]
          exact Nat.le_trans (show found.length + 1 ≤ 1000001 by omega) (by decide)
        · have s2 := (same_new (o := .lst [V.int (n : Int)]) hp).trans (same_new (o := .lst ((found.map fun x : Nat => V.int x) ++ [V.int n])) hp2)
          refine q _ p2 (found ++ [n]) (sm.trans s2) ((sm.trans (same_new (o := .lst [V.int (n : Int)]) hp)).free hp2) (by rw [upd_same, List.map_append]; rfl) (e1 hd1) (by rw [List.length_append]; show found.length + 1 ≤ _; omega)
      · have hd1 : ¬ 1 < n := fun z => hd (decide_eq_true (by show (1 : Int) < n; omega))
        exact ⟨_, rfl, q _ l found sm hl hl1 (e2 hd1) (by omega)⟩

theorem scProd : FnScope ["numbers", "found", "number"] ["numbers"] (defScope sProd) := ⟨rfl, rfl, rfl, by decide +kernel, rfl, by decide +kernel, by decide +kernel⟩
theorem ok_prod {f : Addr} {fd : FuncData} (F : Fun K "product_of" "product_of" sProd f fd) : FnOk P w K mg base CX0 1 f fd ["numbers"] (spProd K) := by
  have nd := scProd.nd
  refine F.ok scProd (fun vs H Q E h => ?_) (fun cdv A outer s H vs Q E hr h => ?_)
  · obtain ⟨a, ns, rfl, _⟩ := h
    rfl
  · obtain ⟨a, ns, rfl, ha, pos, hv, q⟩ := h
    refine ⟨_, pss_cons (ps_set (i := 1) nd rfl (Or.inl rfl) pe_int) (pss_cons (ps_for PassesOwn.never rfl (pi_list (pv 0)) (pg_name (i := 2) nd rfl (Or.inl rfl))
      (pss_one (ps_set (i := 1) nd rfl (Or.inl rfl) (pe_op op_mul (pv 1) (pv 2))))) (pss_one (ps_ret (pv 1)))), ?_⟩
    refine ⟨_, rfl, a, rfl, ⟨_, ha⟩, ?_⟩
    refine for_list (K := K) (a := a) (xs := NL ns) (fun i σ H' => H' = H ∧ ∃ x2, σ = [some (.ref a), some (.int ((FM.vol (ns.take i) : Nat) : Int)), x2]) ⟨rfl, _, rfl⟩ (fun i σ H' hi ⟨e, _⟩ => by subst e; exact ha) ?_ ?_
    · rintro i x σ H' hx ⟨rfl, x2, rfl⟩
      have hil := map_lt hx
      obtain rfl := map_at (d := 0) hx
      have v1 := vol_take pos i
      have v2 := vol_take pos (i + 1)
      rw [vol_snoc hil] at v2
      have n0 : 0 < ns.getD i 0 := by
        rw [List.getD_eq_getElem?_getD, List.getElem?_eq_getElem hil]
        exact pos _ (List.getElem_mem hil)
      have p0 : 0 < FM.vol (ns.take i) := FM.vol_pos fun x hx => pos x (List.mem_of_mem_take hx)
      have n1 : ns.getD i 0 ≤ FM.vol (ns.take i) * ns.getD i 0 := Nat.le_mul_of_pos_left _ p0
      refine ⟨_, rfl, _, rfl, _, _, rfl, rfl, .inl ⟨by omega, by omega⟩, rfl, some (V.int ((ns.getD i 0 : Nat) : Int)), ?_⟩
      exact congrArg (fun v => [some (V.ref a), some (V.int v), some (V.int ((ns.getD i 0 : Nat) : Int))]) (show ((FM.vol (ns.take i) : Nat) : Int) * ((ns.getD i 0 : Nat) : Int) = _ by rw [vol_snoc hil, Int.natCast_mul])
    · rintro σ H' ⟨rfl, x2, rfl⟩
      refine ⟨_, rfl, ?_⟩
      have l : (NL ns).length = ns.length := List.length_map ..
      rw [l, List.take_length]
      exact q
end
end K09

set_option Elab.async false
set_option linter.all false
set_option maxRecDepth 100000
set_option maxHeartbeats 4000000
set_option exponentiation.threshold 5000
namespace K09
open PySem L2 DL PySem.HouseX CM
theorem slice_iff {ds : List PyData} {j b s : Nat} (hs : s ≤ b) (hj : (j + 1) * b ≤ ds.length) : (ds.drop (j * b + s)).take (b - s) = (ds.drop (j * b)).take (b - s) ↔ ∀ i, i + s < b → ds[j * b + (i + s)]? = ds[j * b + i]? := by
  constructor
  · intro e i hi
    have z : ((ds.drop (j * b + s)).take (b - s))[i]? = ((ds.drop (j * b)).take (b - s))[i]? := by rw [e]
    rw [List.getElem?_take_of_lt (by omega), List.getElem?_take_of_lt (by omega), List.getElem?_drop, List.getElem?_drop] at z
    rw [show j * b + (i + s) = j * b + s + i by omega]
    exact z
  · intro h
    refine List.ext_getElem? fun i => ?_
    by_cases hi : i + s < b
    · rw [List.getElem?_take_of_lt (by omega), List.getElem?_take_of_lt (by omega), List.getElem?_drop, List.getElem?_drop, show j * b + s + i = j * b + (i + s) by omega]
      exact h i hi
    · rw [List.getElem?_eq_none (by rw [List.length_take]; omega), List.getElem?_eq_none (by rw [List.length_take]; omega)]
theorem intDs_sub {ds es : List PyData} (h : IntDs ds) (s : ∀ d ∈ es, d ∈ ds) : IntDs es := intDs_iff.mpr fun d hd => intDs_iff.mp h d (s d hd)
theorem depth_sub {ds es : List PyData} {n : Nat} (h : PyData.depthAll ds ≤ n) (s : ∀ d ∈ es, d ∈ ds) : PyData.depthAll es ≤ n := depthAll_le.mpr fun d hd => depthAll_le.mp h d (s d hd)
def cutD (ds : List PyData) (a n : Nat) : List PyData := (ds.drop a).take n
theorem cut_mem {ds : List PyData} {a n : Nat} : ∀ d ∈ cutD ds a n, d ∈ ds := fun _ h => List.mem_of_mem_drop (List.mem_of_mem_take h)
section
variable {P : Program} {w : World} {K : PySem.W.Frag} {mg : Str → Option Value} {base : Heap}
theorem scComes : FnScope ["pieces", "block", "step", "starts", "start"] ["pieces", "block", "step"] (defScope sComes) := ⟨rfl, rfl, rfl, by decide +kernel, rfl, by decide +kernel, by decide +kernel⟩
theorem ok_comes {f : Addr} {fd : FuncData} (F : Fun K "comes_again" "comes_again" sComes f fd) (T : TxtG2 mg) : FnOk P w K mg base CX0 1 f fd ["pieces", "block", "step"] (spComes K) := by
  have nd := scComes.nd
  refine F.ok scComes (fun vs H Q E h => ?_) (fun cdv A outer s H vs Q E hr h => ?_)
  · obtain ⟨a, _, _, _, m, n, rfl, _⟩ := h
    rfl
  · obtain ⟨a, xs, ds, n, b, st, rfl, ha, hd, iD, dD, h0, h1, hl, h2, hb, q⟩ := h
    refine ⟨_, pss_cons (ps_set (i := 3) nd rfl (Or.inl rfl) (pe_callTy cr_range3 (by rfl) T.range PyProof.Rows.boot_range (pa_cons pe_int (pa_cons (pe_callB call_len_seq (by rfl) T.len PySem.boot_len (pa_cons (pv 0) pa_nil)) (pa_cons (pv 1) pa_nil)))))
      (pss_one (ps_ret (pe_callB (cr_all rfl) (by rfl) T.all (by decide +kernel) (pa_cons (pe_lc (own := [("start", 4)]) (g := gName 4) rfl nd
      (pi_rngC (pv 3))
      (blkOk_by (N := ["pieces", "block", "step", "starts", "start"]) (sc := defScope sComes) (by decide +kernel)) (fun _ _ _ _ _ => pg_name (i := 4) nd rfl (Or.inl rfl)) (fun _ _ _ _ _ => pts_nil)
      (fun _ _ _ _ _ => pe_cmpR (show OpR _ _ (rEqD K) from op_eqD hr.units) (pe_slice (show SlR _ (rSlL K) from sl_list) (pv 0) (po_some (pe_op op_add (pv 4) (pv 2))) (po_some (pe_op op_add (pv 4) (pv 1)))) (pe_slice (show SlR _ (rSlL K) from sl_list) (pv 0) (po_some (pv 4)) (po_some (pe_op op_sub (pe_op op_add (pv 4) (pv 1)) (pv 2)))) (nomark _))) pa_nil)))), ?_⟩
    have xl : xs.length = n * b := (dpAll_len hd).trans hl
    have R : RgC 0 ((xs.length : Nat) : Int) (b : Int) n := by
      rw [xl]
      exact rgC_n (by omega) h2 hb
    refine ⟨_, rfl, a, _, rfl, .inl (SqL.of ha), _, rfl, _, _, _, n, rfl, R, fun p hp => ?_⟩
    have s1 := same_new (o := RngO 0 ((xs.length : Nat) : Int) (b : Int) p) hp
    generalize hH1 : upd H p (RngO 0 ((xs.length : Nat) : Int) (b : Int) p) = H1 at *
    have e1 : H1 p = some (RngO 0 ((xs.length : Nat) : Int) (b : Int) p) := by rw [← hH1]; exact upd_same
    have a1 := s1 _ _ ha
    refine ⟨_, rfl, p, _, _, _, n, rfl, e1, R, fun D hD => ?_⟩
    refine lc_it (walk_rangeC (lo := 0) (c := (b : Int)) (n := n)) (Made H1 D (fun _ => true) (fun j => V.bl (PyData.eqv (.list (cutD ds (j * b + st) (b - st))) (.list (cutD ds (j * b) (b - st)))))) (Made.start hD) (fun i H' _ M => trivial) ?_ ?_
    · rintro j x H' H'' hj M ⟨rfl, rfl⟩
      refine ⟨rfl, _, rfl, _, rfl, _, rfl, _, _, rfl, rfl, _, rfl, _, rfl, _, rfl, _, _, rfl, rfl, _, rfl, a, _, rfl, SqL.of (M.same _ _ a1), fun c1 hc1 => ?_⟩
      have hjb : (j + 1) * b ≤ n * b := Nat.mul_le_mul_right _ hj
      rw [Nat.succ_mul] at hjb
      have z0 : (0 + ((j : Nat) : Int) * (b : Int)) = ((j * b : Nat) : Int) := by simp
      have q1 : (0 + ((j : Nat) : Int) * (b : Int) + (st : Int)) = ((j * b + st : Nat) : Int) := by simp
      have q2 : (0 + ((j : Nat) : Int) * (b : Int) + (b : Int)) = ((j * b + b : Nat) : Int) := by simp
      have q4 : (0 + ((j : Nat) : Int) * (b : Int) + (b : Int) - (st : Int)) = ((j * b + b - st : Nat) : Int) := by rw [q2]; omega
      have d1 : cutV xs (some (0 + ((j : Nat) : Int) * (b : Int) + (st : Int))) (some (0 + ((j : Nat) : Int) * (b : Int) + (b : Int))) = (xs.drop (j * b + st)).take (b - st) := by
        rw [q1, q2, cut_nat (by omega) (by omega), show j * b + b - (j * b + st) = b - st by omega]
      have d2 : cutV xs (some (0 + ((j : Nat) : Int) * (b : Int))) (some (0 + ((j : Nat) : Int) * (b : Int) + (b : Int) - (st : Int))) = (xs.drop (j * b)).take (b - st) := by
        rw [q4, z0, cut_nat (by omega) (by omega), show j * b + b - st - j * b = b - st by omega]
      have k1 := same_new (o := .lst (cutV xs (some (0 + ((j : Nat) : Int) * (b : Int) + (st : Int))) (some (0 + ((j : Nat) : Int) * (b : Int) + (b : Int))))) hc1
      refine ⟨_, rfl, _, rfl, _, rfl, _, rfl, _, rfl, _, _, rfl, rfl, _, rfl, _, _, rfl, rfl, _, rfl, a, _, rfl, SqL.of (k1 _ _ (M.same _ _ a1)), fun c2 hc2 => ?_⟩
      have k2 := same_new (o := .lst (cutV xs (some (0 + ((j : Nat) : Int) * (b : Int))) (some (0 + ((j : Nat) : Int) * (b : Int) + (b : Int) - (st : Int))))) hc2
      have kk := (s1.trans M.same).trans (k1.trans k2)
      refine ⟨.list (cutD ds (j * b + st) (b - st)), .list (cutD ds (j * b) (b - st)), .lst (SqL.of (k2 _ _ upd_same)) (by have w := dpAll_take (b - st) (dpAll_drop (j * b + st) (dpAll_same kk hd)); rw [← d1] at w; exact w), .lst (SqL.of upd_same) (by have w := dpAll_take (b - st) (dpAll_drop (j * b) (dpAll_same kk hd)); rw [← d2] at w; exact w), shaped_intL (intDs_sub iD cut_mem) (depth_sub dD cut_mem), shaped_intL (intDs_sub iD cut_mem) (depth_sub dD cut_mem), ?_⟩
      have nb : j < 10000000 := by
        have : n ≤ n * b := Nat.le_mul_of_pos_right _ (by omega)
        omega
      exact M.yes hD (k1.trans k2) (rfl : (fun _ : Nat => true) j = true) nb
    · intro H' M
      refine ⟨D, (List.range n).map fun j => PyData.eqv (.list (cutD ds (j * b + st) (b - st))) (.list (cutD ds (j * b) (b - st))), rfl, SqL.of ?_, ?_⟩
      · rw [M.at_, made_all, List.map_map]
        rfl
      · refine q H' _ (s1.trans M.same) ?_
        rw [List.all_eq_true]
        constructor
        · intro h j i hj hi
          rw [hl] at hj
          have jn : j < n := by
            have := Nat.le_of_mul_le_mul_right hj (show 0 < b by omega)
            omega
          have e := h _ (List.mem_map.mpr ⟨j, List.mem_range.mpr jn, rfl⟩)
          have e2 := (eqv_intDs (intDs_sub iD cut_mem) (intDs_sub iD cut_mem)).mp (show PyData.eqvAll (cutD ds (j * b + st) (b - st)) (cutD ds (j * b) (b - st)) = true from e)
          exact (slice_iff h1 (by rw [hl]; exact hj)).mp e2 i hi
        · intro A x hx
          obtain ⟨j, hj, rfl⟩ := List.mem_map.mp hx
          have jn := List.mem_range.mp hj
          have jb : (j + 1) * b ≤ ds.length := by rw [hl]; exact Nat.mul_le_mul_right _ jn
          show PyData.eqvAll (cutD ds (j * b + st) (b - st)) (cutD ds (j * b) (b - st)) = true
          exact (eqv_intDs (intDs_sub iD cut_mem) (intDs_sub iD cut_mem)).mpr ((slice_iff h1 jb).mpr fun i hi => A j i jb hi)
end
end K09

set_option Elab.async false
set_option linter.all false
set_option maxRecDepth 100000
set_option maxHeartbeats 8000000
set_option exponentiation.threshold 5000
namespace K09
open PySem L2 DL PySem.HouseX CM
theorem dpAll_app {K : PySem.W.Frag} {H : Hp} : ∀ {xs ys : List V} {ds es : List PyData}, DpAll K H xs ds → DpAll K H ys es → DpAll K H (xs ++ ys) (ds ++ es)
  | [], _, [], _, .nil, h => h
  | _ :: _, _, _ :: _, _, .cons a r, h => .cons a (dpAll_app r h)
theorem cutB_succ {α : Type} (p : List α) (b s n : Nat) : FM.cutB p b s (n + 1) = FM.cutB p b s n ++ (p.drop (n * b)).take s := by
  unfold FM.cutB
  rw [List.range_succ, List.flatMap_append]
  simp
theorem dpAll_cutB {K : PySem.W.Frag} {H : Hp} {xs : List V} {ds : List PyData} (h : DpAll K H xs ds) (b s : Nat) : ∀ n, DpAll K H (FM.cutB xs b s n) (FM.cutB ds b s n)
  | 0 => .nil
  | n + 1 => by
    rw [cutB_succ, cutB_succ]
    exact dpAll_app (dpAll_cutB h b s n) (dpAll_take _ (dpAll_drop _ h))
theorem cutB_mem {ds : List PyData} {b s : Nat} : ∀ {n : Nat} {d : PyData}, d ∈ FM.cutB ds b s n → d ∈ ds := fun {n d} h => by
  obtain ⟨j, _, z⟩ := List.mem_flatMap.mp h
  exact List.mem_of_mem_drop (List.mem_of_mem_take z)
theorem cutB_le {α : Type} (p : List α) (b s : Nat) : ∀ n, (FM.cutB p b s n).length ≤ n * s
  | 0 => Nat.zero_le _
  | n + 1 => by
    have := cutB_le p b s n
    rw [cutB_succ, List.length_append, List.length_take, Nat.succ_mul]
    omega
/-- on the way: the places from k on are the least -/
structure Mid (E : List Nat → PyData) (ms : List Nat) (k : Nat) (ls : List Nat) (es : List PyData) : Prop where
  told : FM.Told E (ms.take k ++ ls) es
  len : k + ls.length = ms.length
  least : ∀ l1 m l2, ls = l1 ++ m :: l2 → ∀ q, 0 < q → FM.PdC E ms.length (k + l1.length) q → m ∣ q
theorem Mid.start {E : List Nat → PyData} {ms : List Nat} {es : List PyData} (T : FM.Told E ms es) : Mid E ms ms.length [] es :=
  ⟨by rw [List.take_length, List.append_nil]; exact T, rfl, fun l1 m l2 e => by simp at e⟩
theorem Mid.step {E : List Nat → PyData} {ms : List Nat} {k d : Nat} {ls : List Nat} {es : List PyData} (hk : k + 1 + ls.length = ms.length) (T : FM.Told E (ms.take k ++ d :: ls) es)
    (l0 : ∀ l1 m l2, ls = l1 ++ m :: l2 → ∀ q, 0 < q → FM.PdC E ms.length (k + 1 + l1.length) q → m ∣ q) (hd : ∀ q, 0 < q → FM.PdC E ms.length k q → d ∣ q) : Mid E ms k (d :: ls) es :=
  ⟨T, by rw [List.length_cons]; omega, fun l1 m l2 e q hq P => by
    match l1, e with
    | [], e =>
      obtain ⟨rfl, rfl⟩ := List.cons.inj e
      exact hd q hq P
    | x :: l1, e =>
      obtain ⟨rfl, e2⟩ := List.cons.inj e
      refine l0 l1 m l2 e2 q hq ?_
      rw [show k + 1 + l1.length = k + (d :: l1).length by rw [List.length_cons]; omega]
      exact P⟩
theorem Mid.end_ {E : List Nat → PyData} {ms : List Nat} {ls : List Nat} {es : List PyData} (M : Mid E ms 0 ls es) : FM.Told E ls es ∧ FM.LeastT E ls ∧ ls.length = ms.length := by
  have T : FM.Told E ls es := M.told
  have l := M.len
  refine ⟨T, ⟨fun pre m suf e => ⟨T.pos m (by rw [e]; simp), T.per pre m suf e, fun q hq P => M.least pre m suf e q hq ?_⟩⟩, by omega⟩
  rw [Nat.zero_add, show ms.length = ls.length by omega]
  exact P
theorem le_vol : ∀ {ms : List Nat} {m : Nat}, (∀ x ∈ ms, 0 < x) → m ∈ ms → m ≤ FM.vol ms
  | x :: ms, m, h, hm => by
    have h2 : ∀ y ∈ ms, 0 < y := fun y hy => h y (List.mem_cons_of_mem _ hy)
    have v := FM.vol_pos h2
    rcases List.mem_cons.mp hm with e | e
    · rw [e]; exact Nat.le_mul_of_pos_right _ v
    · exact Nat.le_trans (le_vol h2 e) (Nat.le_mul_of_pos_left _ (h x List.mem_cons_self))
theorem vol_mono : ∀ {as bs : List Nat}, (∀ b ∈ bs, 0 < b) → as.length = bs.length → (∀ i a b : Nat, as[i]? = some a → bs[i]? = some b → a ≤ b) → FM.vol as ≤ FM.vol bs
  | [], [], _, _, _ => Nat.le_refl _
  | a :: as, b :: bs, h, l, e => Nat.mul_le_mul (e 0 a b rfl rfl) (vol_mono (fun x hx => h x (List.mem_cons_of_mem _ hx)) (Nat.succ.inj l) fun i x y hx hy => e (i + 1) x y hx hy)
/-- the places made least are not greater -/
theorem Mid.vol_le {E : List Nat → PyData} {ms : List Nat} {k : Nat} {ls : List Nat} {es ds : List PyData} (M : Mid E ms k ls es) (T : FM.Told E ms ds) : FM.vol (ms.take k ++ ls) ≤ FM.vol ms := by
  have l := M.len
  have tl : (ms.take k).length = k := by rw [List.length_take]; omega
  refine vol_mono T.pos (by rw [List.length_append, tl]; exact l) fun i a b ha hb => ?_
  by_cases h : i < k
  · rw [List.getElem?_append_left (by omega), List.getElem?_take_of_lt h, hb] at ha
    exact Nat.le_of_eq (Option.some.inj ha).symm
  · rw [List.getElem?_append_right (by omega), tl] at ha
    have il := (List.getElem?_eq_some_iff.mp ha).1
    have e1 : ls = ls.take (i - k) ++ a :: ls.drop (i - k + 1) := by
      have := (List.getElem?_eq_some_iff.mp ha).2
      rw [← this, ← List.drop_eq_getElem_cons il, List.take_append_drop]
    have ib := (List.getElem?_eq_some_iff.mp hb).1
    have e2 : ms = ms.take i ++ b :: ms.drop (i + 1) := by
      have := (List.getElem?_eq_some_iff.mp hb).2
      rw [← this, ← List.drop_eq_getElem_cons ib, List.take_append_drop]
    have b0 : 0 < b := T.pos b (by rw [e2]; simp)
    have P := T.per _ _ _ e2
    have lt : (ls.take (i - k)).length = i - k := by rw [List.length_take]; omega
    have lt2 : (ms.take i).length = i := by rw [List.length_take]; omega
    rw [lt2] at P
    exact Nat.le_of_dvd b0 (M.least _ a _ e1 b b0 (by rw [lt, show k + (i - k) = i by omega]; exact P))
theorem sqT_same {K : PySem.W.Frag} {H H' : Hp} {a : Addr} {xs : List V} (k : Same H H') (s : SqT K H a xs) : SqT K H' a xs :=
  s.elim (fun h => .inl (h.elim (fun h => .inl (k _ _ h)) fun ⟨o, h⟩ => .inr ⟨o, k _ _ h⟩)) fun h => .inr h
def spLeastW (K : PySem.W.Frag) : Sp := fun vs H Q _ => ∃ (t a : Addr) (ms : List Nat) (xs : List V) (ds : List PyData) (E : List Nat → PyData), vs = [.ref t, .ref a] ∧ SqT K H t (NL ms) ∧ H a = some (.lst xs) ∧ DpAll K H xs ds ∧ IntDs ds ∧ PyData.depthAll ds ≤ 20 ∧
  FM.Told E ms ds ∧ FM.vol ms < 1000000 ∧ ms.length ≤ 100 ∧
  ∀ H' r t2 b2 ls ys es, Same H H' → H' r = some (.tup [.ref t2, .ref b2]) → H' t2 = some (.tup (NL ls)) → H' b2 = some (.lst ys) → DpAll K H' ys es → (∀ d ∈ es, d ∈ ds) → FM.Told E ls es → FM.LeastT E ls → ls.length = ms.length → Q (.ref r) H'
structure TxtG4 (mg : Str → Option Value) (fP fC : Addr) : Prop where
  len : mg "len" = none
  range : mg "range" = none
  reversed : mg "reversed" = none
  gP : mg "prime_factors" = some (.ref fP)
  gC : mg "comes_again" = some (.ref fC)
section
variable {P : Program} {w : World} {K : PySem.W.Frag} {mg : Str → Option Value} {base : Heap}
theorem scLeastW : FnScope ["moduli", "pieces", "least", "inner", "place", "modulus", "prime", "block", "step", "start", "piece"] ["moduli", "pieces"] (defScope sLeastW) := ⟨rfl, rfl, rfl, by decide +kernel, rfl, by decide +kernel, by decide +kernel⟩
theorem ok_leastw {f fP fC : Addr} {fd fdP fdC : FuncData} (F : Fun K "least_way" "least_way" sLeastW f fd) (T : TxtG4 mg fP fC)
    (GP : FnOk P w K mg base CX0 1 fP fdP ["number"] spPrimes) (kP : PySem.W.keepIn K (.ref fP) = true) (bP : Binds K fdP ["number"] [])
    (GC : FnOk P w K mg base CX0 1 fC fdC ["pieces", "block", "step"] (spComes K)) (kC : PySem.W.keepIn K (.ref fC) = true) (bC : Binds K fdC ["pieces", "block", "step"] []) : FnOk P w K mg base CX0 2 f fd ["moduli", "pieces"] (spLeastW K) := by
  have nd := scLeastW.nd
  refine F.ok scLeastW (fun vs H Q E h => ?_) (fun cdv A outer s H vs Q E hr h => ?_)
  · obtain ⟨_, _, _, _, _, _, rfl, _⟩ := h
    rfl
  · obtain ⟨t, a, ms, xs, ds, EE, rfl, ht, ha, hd, iD, dD, TT, hv, hm, q⟩ := h
    refine ⟨_, pss_cons (ps_set (i := 2) nd rfl (Or.inl rfl) (pe_tup pa_nil)) (pss_cons (ps_set (i := 3) nd rfl (Or.inl rfl) pe_int)
      (pss_cons (ps_for PassesOwn.never rfl (pi_revR (by rfl) T.reversed (prg_1 (by rfl) T.range (pe_callB call_len_seq (by rfl) T.len PySem.boot_len (pa_cons (pv 0) pa_nil)))) (pg_name (i := 4) nd rfl (Or.inl rfl))
        (pss_cons (ps_set (i := 5) nd rfl (Or.inl rfl) (pe_ix ix_tup (pv 0) (pv 4) (fun _ _ => rfl)))
        (pss_cons (ps_for PassesOwn.never rfl (pi_list (pe_call GP hr rfl T.gP kP bP .nil pass0 (pa_cons (pe_ix ix_tup (pv 0) (pv 4) (fun _ _ => rfl)) pa_nil))) (pg_name (i := 6) nd rfl (Or.inl rfl))
          (pss_cons (ps_set (i := 7) nd rfl (Or.inl rfl) (pe_op op_mul (pv 3) (pv 5)))
          (pss_cons (ps_set (i := 8) nd rfl (Or.inr rfl) (pe_op op_fdivN (pv 7) (pv 6)))
          (pss_one (ps_if (pt_val (pe_call GC hr rfl T.gC kC bC .nil pass0 (pa_cons (pv 1) (pa_cons (pv 7) (pa_cons (pv 8) pa_nil)))))
            (pss_cons (ps_set (i := 1) nd rfl (Or.inr rfl) (pe_lc2 (own := [("start", 9), ("piece", 10)]) (vs1 := [10]) (g := gName 9) (g1 := gName 10) rfl nd (pi_range3 (by rfl) T.range (pa_cons pe_int (pa_cons (pe_callB call_len_seq (by rfl) T.len PySem.boot_len (pa_cons (pv 1) pa_nil)) (pa_cons (pv 7) pa_nil))))
              (blkOk_by (N := ["moduli", "pieces", "least", "inner", "place", "modulus", "prime", "block", "step", "start", "piece"]) (sc := defScope sLeastW) (by decide +kernel)) (by decide)
              (fun _ _ _ _ _ => pg_name (i := 9) nd rfl (Or.inl rfl)) (fun _ _ _ _ _ => pts_nil) (fun _ _ _ _ _ => (show PI _ _ _ (iList K _) from pi_list (pe_slice (show SlR _ (rSlL K) from sl_list) (pv 1) (po_some (pv 9)) (po_some (pe_op op_add (pv 9) (pv 8)))))) (fun _ _ _ _ _ => pg_name (i := 10) nd rfl (Or.inl rfl)) (fun _ _ _ _ _ => pts_nil) (fun _ _ _ _ _ => pv 10)))
            (pss_one (ps_set (i := 5) nd rfl (Or.inl rfl) (pe_op op_fdivN (pv 5) (pv 6))))) pss_nil)))))
        (pss_cons (ps_set (i := 2) nd rfl (Or.inl rfl) (pe_op op_catT (pe_tup (pa_cons (pv 5) pa_nil)) (pv 2)))
        (pss_one (ps_set (i := 3) nd rfl (Or.inl rfl) (pe_op op_mul (pv 3) (pv 5))))))))
      (pss_one (ps_ret (pe_tup (pa_cons (pv 2) (pa_cons (pv 1) pa_nil))))))), ?_⟩
    have lm : (NL ms).length = ms.length := List.length_map ..
    refine ⟨Nat.zero_le _, fun e0 he0 => ⟨_, rfl, t, _, rfl, .inr (sqT_same (same_new he0) ht), ?_⟩⟩
    have s0 := same_new (o := .tup []) he0
    have t0 := sqT_same s0 ht
    have a0 := s0 _ _ ha
    have d0 := dpAll_same s0 hd
    have e00 : upd H e0 (.tup []) e0 = some (.tup []) := upd_same
    generalize upd H e0 (.tup []) = H0 at *
    refine ⟨_, rfl, by decide, by decide, (by show -(2 ^ 62) ≤ (((NL ms).length : Nat) : Int); omega), (by show (((NL ms).length : Nat) : Int) < 2 ^ 62; omega), ?_⟩
    refine for_it walk_rangeC (fun i σ H' => ∃ (tl pc : Addr) (ls : List Nat) (es : List PyData) (ys : List V) (x4 x5 x6 x7 x8 : Option V), σ = [some (.ref t), some (.ref pc), some (.ref tl), some (.int ((FM.vol ls : Nat) : Int)), x4, x5, x6, x7, x8, none, none] ∧ Same H0 H' ∧ H' tl = some (.tup (NL ls)) ∧ H' pc = some (.lst ys) ∧ DpAll K H' ys es ∧ (∀ d ∈ es, d ∈ ds) ∧ Mid EE ms (ms.length - i) ls es)
      ⟨e0, a, [], ds, xs, none, none, none, none, none, rfl, Same.refl _, e00, a0, d0, fun _ h => h, Mid.start TT⟩ (fun _ _ _ _ _ => trivial) ?_ ?_
    · rintro i x σ H1 H1' hi ⟨tl, pc, ls, es, ys, x4, x5, x6, x7, x8, rfl, sm, htl, hpc, hdp, sub, M⟩ ⟨rfl, rfl⟩
      have hi2 : i < ms.length := by
        have : i < ((((NL ms).length : Nat) : Int) - 0).toNat := hi
        omega
      obtain ⟨k, hk⟩ : ∃ k, k = ms.length - 1 - i := ⟨_, rfl⟩
      have ek : ms.length - i = k + 1 := by omega
      rw [ek] at M
      have kl : k < ms.length := by omega
      obtain ⟨m, hmk⟩ : ∃ m, ms[k]? = some m := ⟨ms[k], List.getElem?_eq_getElem kl⟩
      have m0 : 0 < m := TT.pos m (List.mem_of_getElem? hmk)
      have mv : m ≤ FM.vol ms := le_vol TT.pos (List.mem_of_getElem? hmk)
      have atm : ∀ pz : Int, pz = (k : Int) → atI (NL ms) pz = some (V.int m) := fun pz e => by
        rw [e]
        exact atI_nat (j := k) (by unfold NL; rw [List.getElem?_map, hmk]; rfl)
      have tk : ms.take (k + 1) = ms.take k ++ [m] := by rw [List.take_add_one, hmk]; rfl
      have hpre : (ms.take k).length = k := by rw [List.length_take]; omega
      refine ⟨_, rfl, _, rfl, t, _, _, V.int m, rfl, rfl, sqT_same sm t0, atm _ (by omega), ?_⟩
      refine ⟨_, rfl, _, rfl, t, _, _, V.int m, rfl, rfl, sqT_same sm t0, atm _ (by omega), m, rfl, m0, by omega, fun H2 pl ps sm2 npl hpl PR hps => ?_⟩
      refine ⟨pl, rfl, ⟨_, SqL.of hpl⟩, ?_⟩
      have s2 := sm.trans sm2
      have TM : FM.Told EE (ms.take k ++ m :: ls) es := by
        have := M.told
        rw [tk, List.append_assoc] at this
        exact this
      have ml := M.len
      have hn : ∀ d, (ms.take k ++ d :: ls).length = ms.length := fun d => by rw [List.length_append, hpre, List.length_cons]; omega
      have PD := FM.pers_pdc EE ms.length k
      have Pm : FM.PdC EE ms.length k m := by
        have := TM.per (ms.take k) m ls rfl
        rw [hn, hpre] at this
        exact this
      have vbound : ∀ {d : Nat} {es' : List PyData}, FM.Told EE (ms.take k ++ d :: ls) es' → d ∣ m → FM.vol (ms.take k) * (d * FM.vol ls) < 1000000 := fun {d es'} T' hdm => by
        have a1 : FM.vol (ms.take k) * (d * FM.vol ls) ≤ FM.vol (ms.take k) * (m * FM.vol ls) := Nat.mul_le_mul_left _ (Nat.mul_le_mul_right _ (Nat.le_of_dvd m0 hdm))
        refine Nat.lt_of_le_of_lt a1 ?_
        have e := M.vol_le TT
        rw [tk, List.append_assoc, FM.vol_app] at e
        exact Nat.lt_of_le_of_lt e hv
      refine for_list (K := K) (a := pl) (xs := ps.map fun x : Nat => V.int x) (fun i σ H' => Same H2 H' ∧ ∃ (pc : Addr) (d : Nat) (es : List PyData) (ys : List V) (x4 x6 x7 x8 : Option V), σ = [some (.ref t), some (.ref pc), some (.ref tl), some (.int ((FM.vol ls : Nat) : Int)), x4, some (.int ((d : Nat) : Int)), x6, x7, x8, none, none] ∧ H' pc = some (.lst ys) ∧ DpAll K H' ys es ∧ (∀ d ∈ es, d ∈ ds) ∧ FM.Told EE (ms.take k ++ d :: ls) es ∧ FM.RedP (FM.PdC EE ms.length k) (ps.drop i) d ∧ d ∣ m)
        ⟨Same.refl _, pc, m, es, ys, _, _, _, _, rfl, sm2 _ _ hpc, dpAll_same sm2 hdp, sub, TM, by rw [List.drop_zero]; exact FM.RedP.start m0 Pm PR, Nat.dvd_refl _⟩ (fun i σ H' _ ⟨k, _⟩ => SqL.of (k _ _ hpl)) ?_ ?_
      · rintro j x σ H3 hx ⟨sm3, pc, d, es, ys, x4, x6, x7, x8, rfl, hpc, hdp, sub, TD, R, ddm⟩
        have hil := map_lt hx
        obtain rfl := map_at (d := 0) hx
        have dr : ps.drop j = ps.getD j 0 :: ps.drop (j + 1) := by
          rw [List.getD_eq_getElem?_getD, List.getElem?_eq_getElem hil]
          exact List.drop_eq_getElem_cons hil
        rw [dr] at R
        obtain ⟨p, hp⟩ : ∃ p, p = ps.getD j 0 := ⟨_, rfl⟩
        rw [← hp] at R ⊢
        have Pp : PrimeN p := by
          rw [hp, List.getD_eq_getElem?_getD, List.getElem?_eq_getElem hil]
          exact PR.prime _ (List.getElem_mem hil)
        have p1 := Pp.1
        have dpos := R.pos
        have pd := R.dvd
        have ple : p ≤ d := Nat.le_of_dvd dpos pd
        have sd : 0 < d / p := Nat.div_pos ple (by omega)
        have sl : d / p ≤ d := Nat.div_le_self _ _
        have vb := vbound TD ddm
        have v0 : 0 < FM.vol ls := FM.vol_pos fun x hx => TD.pos x (by simp [hx])
        have u0 : 0 < FM.vol (ms.take k) := FM.vol_pos fun x hx => TD.pos x (by simp [hx])
        have bb : d * FM.vol ls ≤ FM.vol (ms.take k) * (d * FM.vol ls) := Nat.le_mul_of_pos_left _ u0
        have b0 : 0 < d * FM.vol ls := Nat.mul_pos dpos v0
        have dv : d ≤ d * FM.vol ls := Nat.le_mul_of_pos_right _ v0
        have vd : FM.vol ls ≤ d * FM.vol ls := Nat.le_mul_of_pos_left _ dpos
        have eb : ((FM.vol ls : Nat) : Int) * (d : Int) = ((d * FM.vol ls : Nat) : Int) := by rw [Int.natCast_mul, Int.mul_comm]
        have es2 : (((d * FM.vol ls : Nat) : Int)).fdiv (p : Int) = ((d / p * FM.vol ls : Nat) : Int) := by
          rw [Int.fdiv_eq_ediv_of_nonneg _ (by omega), ← Int.natCast_ediv]
          congr 1
          obtain ⟨e, he⟩ := pd
          rw [he, Nat.mul_div_cancel_left _ (by omega), Nat.mul_assoc, Nat.mul_div_cancel_left _ (by omega)]
        refine ⟨_, rfl, _, rfl, _, _, rfl, rfl, .inl ⟨by omega, by omega⟩, ?_⟩
        refine ⟨_, rfl, _, rfl, _, _, rfl, rfl, ⟨by omega, by show (p : Int).natAbs < _; omega⟩, ?_⟩
        have sb : d / p * FM.vol ls ≤ d * FM.vol ls := Nat.mul_le_mul_right _ sl
        have s0' : 0 < d / p * FM.vol ls := Nat.mul_pos sd v0
        have ln : es.length = FM.vol (ms.take k) * (d * FM.vol ls) := by
          rw [TD.tab, FM.tab_len, FM.vol_app]
          rfl
        refine ⟨_, rfl, _, rfl, _, rfl, pc, ys, es, FM.vol (ms.take k), d * FM.vol ls, d / p * FM.vol ls, ?_, hpc, hdp, intDs_sub iD sub, depth_sub dD sub, s0', sb, ln, vb, by omega, fun H4 B sm4 hB => ?_⟩
        · show [V.ref pc, V.int (((FM.vol ls : Nat) : Int) * (d : Int)), V.int ((((FM.vol ls : Nat) : Int) * (d : Int)).fdiv p)] = _
          rw [eb, es2]
        have hpc4 := sm4 _ _ hpc
        have hdp4 := dpAll_same sm4 hdp
        have AG := TD.again (Nat.div_dvd_of_dvd pd) sd
        rw [hn, hpre] at AG
        have yl : ys.length = FM.vol (ms.take k) * (d * FM.vol ls) := (dpAll_len hdp).trans ln
        refine ⟨_, rfl, ite2 (fun hb => ?_) (fun hb => ?_)⟩
        · have per := AG.mp (hB.mp hb)
          have R2 := R.yes Pp per
          have T2 := TD.cut (Nat.div_dvd_of_dvd pd) sd (by rw [hn, hpre]; exact per)
          refine ⟨_, rfl, pc, _, rfl, .inl (SqL.of hpc4), _, rfl, 0, ((ys.length : Nat) : Int), ((FM.vol ls : Nat) : Int) * (d : Int), FM.vol (ms.take k), rfl, by rw [yl, eb]; exact rgC_n b0 vb (by omega), fun D hD => ?_⟩
          refine outer_it (walk_rangeC (lo := 0) (c := ((FM.vol ls : Nat) : Int) * (d : Int)) (n := FM.vol (ms.take k))) (fun i H' => Same H4 H' ∧ H' D = some (.lst (FM.cutB ys (d * FM.vol ls) (d / p * FM.vol ls) i))) ⟨same_new hD, upd_same⟩ (fun _ _ _ _ => trivial) ?_ ?_
          · rintro z x H5 H5' hz ⟨sm5, hD5⟩ ⟨rfl, rfl⟩
            have hpc5 := sm5 _ _ hpc4
            have zb : (z + 1) * (d * FM.vol ls) ≤ FM.vol (ms.take k) * (d * FM.vol ls) := Nat.mul_le_mul_right _ hz
            rw [Nat.succ_mul] at zb
            have z0 : (0 + ((z : Nat) : Int) * (((FM.vol ls : Nat) : Int) * (d : Int))) = ((z * (d * FM.vol ls) : Nat) : Int) := by rw [eb, Int.zero_add, ← Int.natCast_mul]
            have z1 : (0 + ((z : Nat) : Int) * (((FM.vol ls : Nat) : Int) * (d : Int)) + (((FM.vol ls : Nat) : Int) * (d : Int)).fdiv p) = ((z * (d * FM.vol ls) + d / p * FM.vol ls : Nat) : Int) := by rw [z0, eb, es2, Int.natCast_add]
            obtain ⟨part, hpart⟩ : ∃ part, part = (ys.drop (z * (d * FM.vol ls))).take (d / p * FM.vol ls) := ⟨_, rfl⟩
            have cut : cutV ys (some (0 + ((z : Nat) : Int) * (((FM.vol ls : Nat) : Int) * (d : Int)))) (some (0 + ((z : Nat) : Int) * (((FM.vol ls : Nat) : Int) * (d : Int)) + (((FM.vol ls : Nat) : Int) * (d : Int)).fdiv p)) = part := by
              rw [z1, z0, cut_nat (by omega) (by omega), hpart, show z * (d * FM.vol ls) + d / p * FM.vol ls - z * (d * FM.vol ls) = d / p * FM.vol ls by omega]
            refine ⟨rfl, _, rfl, _, rfl, _, rfl, _, rfl, _, rfl, _, _, rfl, rfl, _, rfl, pc, _, rfl, SqL.of hpc5, fun c hc => ?_⟩
            have sc := same_new (o := .lst (cutV ys (some (0 + ((z : Nat) : Int) * (((FM.vol ls : Nat) : Int) * (d : Int)))) (some (0 + ((z : Nat) : Int) * (((FM.vol ls : Nat) : Int) * (d : Int)) + (((FM.vol ls : Nat) : Int) * (d : Int)).fdiv p)))) hc
            refine ⟨c, rfl, ⟨_, SqL.of upd_same⟩, ?_⟩
            rw [cut] at sc ⊢
            have hD6 := sc _ _ hD5
            have hc6 : upd H5' c (.lst part) c = some (.lst part) := upd_same
            have ncD : c ≠ D := fun z => by rw [z, hD5] at hc; cases hc
            generalize upd H5' c (.lst part) = H6 at *
            have cl := cutB_le ys (d * FM.vol ls) (d / p * FM.vol ls) z
            have zs : z * (d / p * FM.vol ls) ≤ z * (d * FM.vol ls) := Nat.mul_le_mul_left _ sb
            have pl2 : part.length ≤ d / p * FM.vol ls := by rw [hpart, List.length_take]; omega
            refine LG.inner_list (K := K) (a := c) (ys := part) (fun j H' => (∀ b, b ≠ D → ∀ o, H6 b = some o → H' b = some o) ∧ H' D = some (.lst (FM.cutB ys (d * FM.vol ls) (d / p * FM.vol ls) z ++ part.take j))) ⟨fun _ _ _ e => e, by rw [List.take_zero, List.append_nil]; exact hD6⟩ (fun j H' _ ⟨k, _⟩ => SqL.of (k _ ncD _ hc6)) ?_ ?_
            · rintro j y H7 hy ⟨k, hD7⟩
              refine ⟨rfl, _, rfl, _, hD7, ?_, fun b hb o e => (upd_ne hb).trans (k b hb o e), ?_⟩
              · exact Nat.lt_of_le_of_lt (show _ ≤ 2000000 by rw [List.length_append, List.length_take]; omega) (by decide)
              · rw [upd_same, take_more hy, List.append_assoc]
            · rintro H7 ⟨k, hD7⟩
              refine ⟨fun b o e => ?_, ?_⟩
              · by_cases hb : b = D
                · rw [hb, hD] at e
                  cases e
                · exact k b hb o (sc _ _ (sm5 b o e))
              · rw [hD7, List.take_length, cutB_succ, ← hpart]
          · rintro H5 ⟨sm5, hD5⟩
            refine ⟨_, rfl, _, rfl, _, _, rfl, rfl, ⟨by omega, by show (p : Int).natAbs < _; omega⟩, ?_⟩
            have fd2 : ((d : Int)).fdiv (p : Int) = ((d / p : Nat) : Int) := by
              rw [Int.fdiv_eq_ediv_of_nonneg _ (by omega)]
              rfl
            refine ⟨(sm3.trans sm4).trans sm5, D, d / p, _, _, x4, some (.int (p : Int)), some (.int (((FM.vol ls : Nat) : Int) * (d : Int))), some (.int ((((FM.vol ls : Nat) : Int) * (d : Int)).fdiv p)), ?_, hD5, dpAll_cutB (dpAll_same sm5 hdp4) _ _ _, fun x hx => sub x (cutB_mem hx), T2, R2, Nat.dvd_trans (Nat.div_dvd_of_dvd pd) ddm⟩
            rw [← fd2]
            rfl
        · exact ⟨sm3.trans sm4, pc, d, es, ys, _, _, _, _, rfl, hpc4, hdp4, sub, TD, R.no PD Pp fun per => hb (hB.mpr (AG.mpr per)), ddm⟩
      · rintro σ H3 ⟨sm3, pc, d, es, ys, x4, x6, x7, x8, rfl, hpc, hdp, sub, TD, R, ddm⟩
        rw [List.drop_of_length_le (by rw [List.length_map]; omega)] at R
        have s3 := s2.trans sm3
        have hd0 := R.end_ PD
        have vb := vbound TD ddm
        have u0 : 0 < FM.vol (ms.take k) := FM.vol_pos fun x hx => TD.pos x (by simp [hx])
        have bb : d * FM.vol ls ≤ FM.vol (ms.take k) * (d * FM.vol ls) := Nat.le_mul_of_pos_left _ u0
        have v0 : 0 < FM.vol ls := FM.vol_pos fun x hx => TD.pos x (by simp [hx])
        have dv : d ≤ d * FM.vol ls := Nat.le_mul_of_pos_right _ v0
        have vd : FM.vol ls ≤ d * FM.vol ls := Nat.le_mul_of_pos_left _ R.pos
        have NX : Mid EE ms k (d :: ls) es := Mid.step ml TD M.least hd0
        have eb : ((FM.vol ls : Nat) : Int) * (d : Int) = ((FM.vol (d :: ls) : Nat) : Int) := by
          show _ = ((d * FM.vol ls : Nat) : Int)
          rw [Int.natCast_mul, Int.mul_comm]
        have htl3 := (sm2.trans sm3) _ _ htl
        have ki : ms.length - (i + 1) = k := by omega
        refine ⟨_, rfl, (by show 1 ≤ sizeLine; decide), fun p1 hp1 => ?_⟩
        have sp1 := same_new (o := .tup [V.int ((d : Nat) : Int)]) hp1
        have lls : (NL ls).length ≤ 100 := by
          show (ls.map _).length ≤ 100
          rw [List.length_map]
          omega
        have sz : (100001 : Nat) ≤ sizeLine := by decide
        refine ⟨_, rfl, p1, tl, _, _, rfl, rfl, SqT.of upd_same, SqT.of (sp1 _ _ htl3), (by simp), (by show 1 + _ ≤ sizeLine; omega), fun z => ?_, fun z p2 hp2 => ?_⟩
        · refine ⟨_, rfl, _, rfl, _, _, rfl, rfl, .inl ⟨by omega, by omega⟩, ?_⟩
          have lz : ls = [] := by
            cases ls with
            | nil => rfl
            | cons _ _ => cases z
          refine ⟨p1, pc, d :: ls, es, ys, x4, some (.int ((d : Nat) : Int)), x6, x7, x8, ?_, s3.trans sp1, ?_, sp1 _ _ hpc, dpAll_same sp1 hdp, sub, by rw [ki]; exact NX⟩
          · rw [← eb]
            rfl
          · rw [upd_same, lz]
            rfl
        · refine ⟨_, rfl, _, rfl, _, _, rfl, rfl, .inl ⟨by omega, by omega⟩, ?_⟩
          have sp2 := same_new (o := .tup ([V.int ((d : Nat) : Int)] ++ NL ls)) hp2
          refine ⟨p2, pc, d :: ls, es, ys, x4, some (.int ((d : Nat) : Int)), x6, x7, x8, ?_, s3.trans (sp1.trans sp2), ?_, sp2 _ _ (sp1 _ _ hpc), dpAll_same (sp1.trans sp2) hdp, sub, by rw [ki]; exact NX⟩
          · rw [← eb]
            rfl
          · rw [upd_same]
            rfl
    · rintro σ H1 ⟨tl, pc, ls, es, ys, x4, x5, x6, x7, x8, rfl, sm, htl, hpc, hdp, sub, M⟩
      have en : ms.length - ((((NL ms).length : Nat) : Int) - 0).toNat = 0 := by omega
      rw [en] at M
      obtain ⟨E1, E2, E3⟩ := M.end_
      refine ⟨_, rfl, _, rfl, (by show 2 ≤ sizeLine; decide), fun r hr => ?_⟩
      have z := same_new (o := .tup [V.ref tl, V.ref pc]) hr
      exact q _ r tl pc ls ys es ((s0.trans sm).trans z) upd_same (z _ _ htl) (z _ _ hpc) (dpAll_same z hdp) sub E1 E2 E3
end
end K09

set_option Elab.async false
set_option linter.all false
set_option maxRecDepth 100000
set_option maxHeartbeats 4000000
set_option exponentiation.threshold 5000
namespace K09
open PySem L2 DL PySem.HouseX CM
def spPlc (K : PySem.W.Frag) : Sp := fun vs H Q _ => ∃ (a b : Addr) (ms : List Nat) (st : List Int), vs = [.ref a, .ref b] ∧ SqL K H a (NL ms) ∧ SqL K H b (IL st) ∧ (∀ m ∈ ms, 0 < m) ∧ st.length = ms.length ∧ FM.vol ms < 1000000 ∧ ∀ H', Same H H' → Q (.int (FM.plc ms (modI ms st) : Nat)) H'
theorem hor_drop {ms : List Nat} {st : List Int} {i : Nat} {m : Nat} {x acc : Int} (h1 : ms[i]? = some m) (h2 : st[i]? = some x) : hor acc (ms.drop i) (st.drop i) = hor (acc * m + x % m) (ms.drop (i + 1)) (st.drop (i + 1)) := by
  have l1 := (List.getElem?_eq_some_iff.mp h1).1
  have l2 := (List.getElem?_eq_some_iff.mp h2).1
  rw [List.drop_eq_getElem_cons l1, List.drop_eq_getElem_cons l2, (List.getElem?_eq_some_iff.mp h1).2, (List.getElem?_eq_some_iff.mp h2).2]
  rfl
section
variable {P : Program} {w : World} {K : PySem.W.Frag} {mg : Str → Option Value} {base : Heap}
theorem scPlaceOf : FnScope ["moduli", "state", "place", "modulus", "amount"] ["moduli", "state"] (defScope sPlaceOf) := ⟨rfl, rfl, rfl, by decide +kernel, rfl, by decide +kernel, by decide +kernel⟩
theorem ok_placeof {f : Addr} {fd : FuncData} (F : Fun K "place_of" "place_of" sPlaceOf f fd) (zip : mg "zip" = none) : FnOk P w K mg base CX0 1 f fd ["moduli", "state"] (spPlc K) := by
  have nd := scPlaceOf.nd
  refine F.ok scPlaceOf (fun vs H Q E h => ?_) (fun cdv A outer s H vs Q E hr h => ?_)
  · obtain ⟨a, b, ms, st, rfl, _⟩ := h
    rfl
  · obtain ⟨a, b, ms, st, rfl, ha, hb, pos, len, hv, q⟩ := h
    refine ⟨_, pss_cons (ps_set (i := 2) nd rfl (Or.inl rfl) pe_int) (pss_cons (ps_for PassesOwn.never rfl (pi_zip (by rfl) zip (pa_cons (pv 0) (pa_cons (pv 1) pa_nil))) (pg_tup rfl (pgs_cons (pg_name (i := 3) nd rfl (Or.inl rfl)) (pgs_cons (pg_name (i := 4) nd rfl (Or.inl rfl)) pgs_nil)))
      (pss_one (ps_set (i := 2) nd rfl (Or.inl rfl) (pe_op op_add (pe_op op_mul (pv 2) (pv 3)) (pe_op op_modN (pv 4) (pv 3)))))) (pss_one (ps_ret (pv 2)))), ?_⟩
    have l1 : (NL ms).length = ms.length := List.length_map ..
    have l2 : (IL st).length = st.length := List.length_map ..
    refine ⟨_, rfl, _, rfl, a, b, NL ms, IL st, rfl, ha, hb, ?_⟩
    refine for_it (walk_zip (K := K) (a := a) (b := b) (xs := NL ms) (ys := IL st) (n := ms.length) (by omega)) (fun i σ H' => Same H H' ∧ ∃ (acc : Nat) (x3 x4 : Option V), σ = [some (.ref a), some (.ref b), some (.int ((acc : Nat) : Int)), x3, x4] ∧ hor acc (ms.drop i) (st.drop i) = hor 0 ms st ∧ acc < FM.vol (ms.take i))
      ⟨Same.refl _, 0, _, _, rfl, rfl, by simp [FM.vol]⟩ (fun i σ H' _ ⟨k, _⟩ => ⟨k.seq ha, k.seq hb⟩) ?_ ?_
    · rintro i x σ H1 H1' hi ⟨sm, acc, x3, x4, rfl, hor', hacc⟩ ⟨T, vx, vy, rfl, hT, rfl, hx, hy⟩
      have hx' : (NL ms)[i]? = some vx := hx
      have hy' : (IL st)[i]? = some vy := hy
      obtain rfl := map_at (d := 0) hx'
      obtain rfl := map_at (d := 0) hy'
      obtain ⟨m, hm⟩ : ∃ m, m = ms.getD i 0 := ⟨_, rfl⟩
      obtain ⟨y, hyy⟩ : ∃ y, y = st.getD i 0 := ⟨_, rfl⟩
      have em : ms[i]? = some m := by rw [hm, List.getD_eq_getElem?_getD, List.getElem?_eq_getElem hi]; rfl
      have ey : st[i]? = some y := by rw [hyy, List.getD_eq_getElem?_getD, List.getElem?_eq_getElem (by omega)]; rfl
      rw [← hm, ← hyy]
      have m0 : 0 < m := pos m (List.mem_of_getElem? em)
      have v1 := vol_take pos (i + 1)
      have v9 := vol_take pos i
      rw [vol_snoc hi, ← hm] at v1
      have q1 : (acc + 1) * m ≤ FM.vol (ms.take i) * m := Nat.mul_le_mul_right _ hacc
      rw [Nat.succ_mul] at q1
      have vp : 0 < FM.vol (ms.take i) := by omega
      have mm : m ≤ FM.vol (ms.take i) * m := Nat.le_mul_of_pos_left _ vp
      have z1 := Int.emod_nonneg y (show (m : Int) ≠ 0 by omega)
      have z2 := Int.emod_lt_of_pos y (show (0 : Int) < m by omega)
      have fe : y.fmod (m : Int) = y % (m : Int) := Int.fmod_eq_emod_of_nonneg _ (by omega)
      refine ⟨T, _, rfl, SqT.of upd_same, rfl, _, _, rfl, _, _, rfl, rfl, ?_⟩
      refine ⟨_, rfl, _, rfl, _, _, rfl, rfl, .inl ⟨by omega, by omega⟩, _, rfl, _, rfl, _, _, rfl, rfl, by omega, _, _, rfl, rfl, ?_⟩
      refine ⟨sm.trans (same_new hT), acc * m + (y % (m : Int)).toNat, some (.int (m : Int)), some (.int y), ?_, ?_, ?_⟩
      · refine congrArg (fun v => [some (V.ref a), some (V.ref b), some (V.int v), some (V.int (m : Int)), some (V.int y)]) ?_
        rw [fe, Int.natCast_add, Int.natCast_mul, Int.toNat_of_nonneg z1]
      · rw [← hor', hor_drop em ey, Int.natCast_add, Int.natCast_mul, Int.toNat_of_nonneg z1]
      · rw [vol_snoc hi, ← hm]
        omega
    · rintro σ H1 ⟨sm, acc, x3, x4, rfl, hor', hacc⟩
      refine ⟨_, rfl, ?_⟩
      have e := hor_eq (ms := ms) (st := st) (acc := 0) pos len
      rw [← hor', List.drop_length, Int.zero_mul, Int.zero_add] at e
      have e2 : (acc : Int) = ((FM.plc ms (modI ms st) : Nat) : Int) := by
        rw [← e, List.drop_of_length_le (by omega)]
        rfl
      rw [e2]
      exact q H1 sm
end
end K09

set_option Elab.async false
set_option linter.all false
set_option maxRecDepth 100000
set_option maxHeartbeats 4000000
set_option exponentiation.threshold 5000
namespace K09
open PySem L2 DL PySem.HouseX CM
/-- integers and an amount: a line of a piece -/
structure Line where
  is : List Int
  am : Int
def Line.row (r : Line) : List Int := r.is ++ [r.am]
def dotI : List Int → List Int → Int
  | a :: as, b :: bs => a * b + dotI as bs
  | _, _ => 0
def Line.at (r : Line) (st : List Int) : Int := dotI r.is st + r.am
theorem dot_range : ∀ {as bs : List Int}, as.length = bs.length → dotI as bs = ((List.range bs.length).map fun i => as.getD i 0 * bs.getD i 0).sum
  | [], [], _ => rfl
  | a :: as, b :: bs, h => by
    show a * b + dotI as bs = _
    rw [dot_range (Nat.succ.inj h), List.length_cons, List.range_succ_eq_map, List.map_cons, List.sum_cons, List.map_map]
    rfl
def spRowAt (K : PySem.W.Frag) : Sp := fun vs H Q _ => ∃ (a b : Addr) (r : Line) (st : List Int), vs = [.ref a, .ref b] ∧ SqT K H a (IL r.row) ∧ SqL K H b (IL st) ∧ r.is.length = st.length ∧ st.length ≤ 100 ∧ (∀ x ∈ r.is, x.natAbs ≤ 10 ^ 9) ∧ (∀ x ∈ st, x.natAbs ≤ 10 ^ 9) ∧ ∀ H', Same H H' → Q (.int (r.at st)) H'
structure TxtG6 (mg : Str → Option Value) : Prop where
  zip : mg "zip" = none
  sum : mg "sum" = none
section
variable {P : Program} {w : World} {K : PySem.W.Frag} {mg : Str → Option Value} {base : Heap}
theorem scRowAt : FnScope ["row", "state", "part", "amount"] ["row", "state"] (defScope sRowAt) := ⟨rfl, rfl, rfl, by decide +kernel, rfl, by decide +kernel, by decide +kernel⟩
theorem ok_rowat {f : Addr} {fd : FuncData} (F : Fun K "row_at" "row_at" sRowAt f fd) (T : TxtG6 mg) : FnOk P w K mg base CX0 1 f fd ["row", "state"] (spRowAt K) := by
  have nd := scRowAt.nd
  refine F.ok scRowAt (fun vs H Q E h => ?_) (fun cdv A outer s H vs Q E hr h => ?_)
  · obtain ⟨a, b, r, st, rfl, _⟩ := h
    rfl
  · obtain ⟨a, b, r, st, rfl, ha, hb, len, few, b1, b2, q⟩ := h
    refine ⟨_, pss_one (ps_ret (pe_op op_add (pe_callB (cr_sum rfl) (by rfl) T.sum (by decide +kernel) (pa_cons (pe_lc (own := [("part", 2), ("amount", 3)]) (g := gTup K 2 (gCons (gName 2) (gCons (gName 3) gNil))) rfl nd
      (pi_zipM (by rfl) T.zip (pa_cons (pv 0) (pa_cons (pv 1) pa_nil)))
      (blkOk_by (N := ["row", "state", "part", "amount"]) (sc := defScope sRowAt) (by decide +kernel)) (fun _ _ _ _ _ => pg_tup rfl (pgs_cons (pg_name (i := 2) nd rfl (Or.inl rfl)) (pgs_cons (pg_name (i := 3) nd rfl (Or.inl rfl)) pgs_nil))) (fun _ _ _ _ _ => pts_nil)
      (fun _ _ _ _ _ => pe_op op_mul (pv 2) (pv 3))) pa_nil))
      (pe_ix ix_tup (pv 0) (pe_un un_neg pe_int) (fun _ _ => rfl)))), ?_⟩
    have l1 : (IL r.row).length = r.is.length + 1 := by
      show (List.map _ (r.is ++ [r.am])).length = _
      rw [List.length_map, List.length_append]
      rfl
    have l2 : (IL st).length = st.length := List.length_map ..
    refine ⟨_, rfl, _, rfl, a, b, IL r.row, IL st, rfl, ha, hb, fun D hD => ?_⟩
    refine lc_it (walk_zipM (K := K) (a := a) (b := b) (xs := IL r.row) (ys := IL st) (n := st.length) (by omega) (by omega) (by omega)) (Made H D (fun _ => true) (fun i => V.int (r.is.getD i 0 * st.getD i 0))) (Made.start hD) (fun i H' _ M => ⟨sqT_same M.same ha, M.same.seq hb⟩) ?_ ?_
    · rintro i x H1 H1' hi M ⟨T, vx, vy, rfl, hT, rfl, hx, hy⟩
      have hx' : (IL r.row)[i]? = some vx := hx
      have hy' : (IL st)[i]? = some vy := hy
      obtain rfl := map_at (d := 0) hx'
      obtain rfl := map_at (d := 0) hy'
      have ex : r.row.getD i 0 = r.is.getD i 0 := by
        unfold Line.row
        rw [List.getD_eq_getElem?_getD, List.getD_eq_getElem?_getD, List.getElem?_append_left (by omega)]
      rw [ex]
      have c1 : (r.is.getD i 0).natAbs ≤ 10 ^ 9 := by
        rw [List.getD_eq_getElem?_getD, List.getElem?_eq_getElem (by omega : i < r.is.length)]
        exact b1 _ (List.getElem_mem _)
      have c2 : (st.getD i 0).natAbs ≤ 10 ^ 9 := by
        rw [List.getD_eq_getElem?_getD, List.getElem?_eq_getElem hi]
        exact b2 _ (List.getElem_mem _)
      refine ⟨T, _, rfl, SqT.of upd_same, rfl, _, _, rfl, _, _, rfl, rfl, rfl, _, rfl, _, rfl, _, _, rfl, rfl, .inl ⟨by omega, by omega⟩, ?_⟩
      exact M.yes hD (same_new hT) rfl (by omega)
    · intro H1 M
      refine ⟨D, (List.range st.length).map fun i => r.is.getD i 0 * st.getD i 0, rfl, SqL.of ?_, ?_⟩
      · rw [M.at_, made_all, List.map_map]
        rfl
      · rw [← dot_range len]
        have last : atI (IL r.row) (-1) = some (V.int r.am) := by
          have e : IL r.row = IL r.is ++ [V.int r.am] := by
            unfold IL Line.row
            rw [List.map_append]
            rfl
          rw [e]
          exact atI_last _ _
        refine ⟨_, rfl, _, rfl, a, _, _, V.int r.am, rfl, rfl, sqT_same M.same ha, last, _, _, rfl, rfl, ?_⟩
        exact q H1 M.same
end
end K09

set_option Elab.async false
set_option linter.all false
set_option maxRecDepth 100000
set_option maxHeartbeats 4000000
set_option exponentiation.threshold 5000
namespace K09
open PySem L2 DL PySem.HouseX CM
theorem map_range_getD {α β : Type} {f : α → β} {l : List α} {d : α} {n : Nat} (h : n = l.length) : (List.range n).map (fun i => f (l.getD i d)) = l.map f := by
  subst h
  refine List.ext_getElem? fun i => ?_
  by_cases h : i < l.length
  · rw [List.getElem?_map, List.getElem?_range h, List.getElem?_map, List.getElem?_eq_getElem h]
    simp [List.getD_eq_getElem?_getD, List.getElem?_eq_getElem h]
  · rw [List.getElem?_eq_none (by simp; omega), List.getElem?_eq_none (by simp; omega)]
def lineD (r : Line) : PyData := .tuple (r.row.map PyData.int)
def rowsD (rs : List Line) : PyData := .tuple (rs.map lineD)
theorem ints_inv {K : PySem.W.Frag} {H : Hp} : ∀ {ns : List Int} {xs : List V}, DpAll K H xs (ns.map PyData.int) → xs = IL ns
  | [], _, .nil => rfl
  | n :: ns, _, .cons (.int _) r => by rw [ints_inv r]; rfl
theorem dp_line {K : PySem.W.Frag} {H : Hp} {v : V} {r : Line} (h : Dp K H v (lineD r)) : ∃ a, v = .ref a ∧ SqT K H a (IL r.row) := by
  unfold lineD at h
  cases h with
  | tup s d => exact ⟨_, rfl, by rw [← ints_inv d]; exact s⟩
theorem dpAll_get {K : PySem.W.Frag} {H : Hp} : ∀ {xs : List V} {ds : List PyData} {i : Nat} {x : V}, DpAll K H xs ds → xs[i]? = some x → ∃ d, ds[i]? = some d ∧ Dp K H x d
  | _ :: _, _ :: _, 0, _, .cons h _, e => ⟨_, rfl, by obtain rfl := Option.some.inj e; exact h⟩
  | _ :: _, _ :: _, i + 1, _, .cons _ r, e => dpAll_get (i := i) r e
  | [], [], _, _, .nil, e => by cases e
theorem intD_ints : ∀ ns : List Int, IntDs (ns.map PyData.int)
  | [] => trivial
  | _ :: ns => ⟨trivial, intD_ints ns⟩
theorem intD_line (r : Line) : IntD (lineD r) := intD_ints _
theorem intD_rows (rs : List Line) : IntD (rowsD rs) := intDs_iff.mpr fun d hd => by
  obtain ⟨r, _, rfl⟩ := List.mem_map.mp hd
  exact intD_line r
def LineOk (n : Nat) (r : Line) : Prop := r.is.length = n ∧ ∀ x ∈ r.is, x.natAbs ≤ 10 ^ 9
def spRowsAt (K : PySem.W.Frag) : Sp := fun vs H Q _ => ∃ (v : V) (b : Addr) (rs : List Line) (st : List Int), vs = [v, .ref b] ∧ Dp K H v (rowsD rs) ∧ SqL K H b (IL st) ∧ (∀ r ∈ rs, LineOk st.length r) ∧ rs.length ≤ 100 ∧ st.length ≤ 100 ∧ (∀ x ∈ st, x.natAbs ≤ 10 ^ 9) ∧
  ∀ H' p, Same H H' → SqT K H' p (IL (rs.map (·.at st))) → Q (.ref p) H'
structure TxtG7 (mg : Str → Option Value) (fR : Addr) : Prop where
  tuple : mg "tuple" = none
  gR : mg "row_at" = some (.ref fR)
section
variable {P : Program} {w : World} {K : PySem.W.Frag} {mg : Str → Option Value} {base : Heap}
theorem scRowsAt : FnScope ["rows", "state", "row"] ["rows", "state"] (defScope sRowsAt) := ⟨rfl, rfl, rfl, by decide +kernel, rfl, by decide +kernel, by decide +kernel⟩
theorem ok_rowsat {f fR : Addr} {fd fdR : FuncData} (F : Fun K "rows_at" "rows_at" sRowsAt f fd) (T : TxtG7 mg fR)
    (GR : FnOk P w K mg base CX0 1 fR fdR ["row", "state"] (spRowAt K)) (kR : PySem.W.keepIn K (.ref fR) = true) (bR : Binds K fdR ["row", "state"] []) : FnOk P w K mg base CX0 2 f fd ["rows", "state"] (spRowsAt K) := by
  have nd := scRowsAt.nd
  refine F.ok scRowsAt (fun vs H Q E h => ?_) (fun cdv A outer s H vs Q E hr h => ?_)
  · obtain ⟨a, b, rs, st, rfl, _⟩ := h
    rfl
  · obtain ⟨v, b, rs, st, rfl, hv, hb, ok, few, few2, b2, q⟩ := h
    refine ⟨_, pss_one (ps_ret (pe_callTy call_tuple_of (by rfl) T.tuple (by decide +kernel) (pa_cons (pe_lc (own := [("row", 2)]) (g := gName 2) rfl nd (pi_tup (pv 0))
      (blkOk_by (N := ["rows", "state", "row"]) (sc := defScope sRowsAt) (by decide +kernel)) (fun _ _ _ _ _ => pg_name (i := 2) nd rfl (Or.inl rfl)) (fun _ _ _ _ _ => pts_nil)
      (fun _ _ _ _ _ => pe_call GR hr rfl T.gR kR bR .nil pass0 (pa_cons (pv 2) (pa_cons (pv 1) pa_nil)))) pa_nil))), ?_⟩
    unfold rowsD at hv
    cases hv with
    | @tup a xs _ hs hd =>
      have lx : xs.length = rs.length := by have := dpAll_len hd; rwa [List.length_map] at this
      refine ⟨_, rfl, a, rfl, ⟨_, hs⟩, fun D hD => ?_⟩
      refine lc_tup (K := K) (a := a) (xs := xs) (Made H D (fun _ => true) (fun i => V.int ((rs.map (·.at st)).getD i 0))) (Made.start hD) (fun i H' _ M => sqT_same M.same hs) ?_ ?_
      · rintro i x H1 hx M
        obtain ⟨d, hd1, hd2⟩ := dpAll_get hd hx
        rw [List.getElem?_map] at hd1
        obtain ⟨r, er, rfl⟩ := Option.map_eq_some_iff.mp hd1
        obtain ⟨ra, rfl, sr⟩ := dp_line hd2
        have il := (List.getElem?_eq_some_iff.mp er).1
        have lo := ok r (List.mem_of_getElem? er)
        refine ⟨rfl, _, rfl, _, rfl, ra, b, r, st, rfl, sqT_same M.same sr, M.same.seq hb, lo.1, few2, lo.2, b2, fun H2 sm => ?_⟩
        have e : r.at st = (rs.map (·.at st)).getD i 0 := by
          rw [List.getD_eq_getElem?_getD, List.getElem?_map, er]
          rfl
        rw [e]
        exact M.yes hD sm rfl (by omega)
      · intro H1 M
        have eD : H1 D = some (.lst (IL (rs.map (·.at st)))) := by
          rw [M.at_, made_all, lx]
          exact congrArg (fun v => some (HO.lst v)) (map_range_getD (f := V.int) (l := rs.map (·.at st)) (by rw [List.length_map]))
        refine ⟨D, _, rfl, .inl ⟨SqL.of eD, fun p hp => ?_⟩⟩
        exact q _ p (M.same.trans (same_new hp)) (SqT.of upd_same)
end
end K09

set_option Elab.async false
set_option linter.all false
set_option maxRecDepth 100000
set_option maxHeartbeats 4000000
set_option exponentiation.threshold 5000
namespace K09
open PySem L2 DL PySem.HouseX CM
def rTupOf (K : PySem.W.Frag) : List V → Hp → VK → Prop := fun vs H Q => ∃ p ys, vs = [V.ref p] ∧ ((SqL K H p ys ∧ ∀ l, H l = none → Q (.ref l) (upd H l (.tup ys))) ∨ (SqT K H p ys ∧ Q (.ref p) H))
def matD (rs : List Line) : PyData := .list (rs.map fun r => .list (r.is.map PyData.int))
def pieceD (rs : List Line) : PyData := .tuple [matD rs, .list ((rs.map (·.am)).map PyData.int)]
theorem dp_list {K : PySem.W.Frag} {H : Hp} {v : V} {ds : List PyData} (h : Dp K H v (.list ds)) : ∃ a xs, v = .ref a ∧ SqL K H a xs ∧ DpAll K H xs ds := by
  cases h with
  | lst s d => exact ⟨_, _, rfl, s, d⟩
theorem dp_ints {K : PySem.W.Frag} {H : Hp} {v : V} {ns : List Int} (h : Dp K H v (.list (ns.map PyData.int))) : ∃ a, v = .ref a ∧ SqL K H a (IL ns) := by
  obtain ⟨a, xs, rfl, s, d⟩ := dp_list h
  exact ⟨a, rfl, by rw [← ints_inv d]; exact s⟩
/-- a piece in the heap -/
theorem dp_piece {K : PySem.W.Frag} {H : Hp} {v : V} {rs : List Line} (h : Dp K H v (pieceD rs)) : ∃ t m n xs, v = .ref t ∧ SqT K H t [.ref m, .ref n] ∧ SqL K H m xs ∧ DpAll K H xs (rs.map fun r => .list (r.is.map PyData.int)) ∧ SqL K H n (IL (rs.map (·.am))) := by
  unfold pieceD at h
  cases h with
  | tup s d =>
    cases d with
    | cons d1 d =>
      cases d with
      | cons d2 d =>
        cases d
        obtain ⟨m, xs, rfl, s1, d1⟩ := dp_list d1
        obtain ⟨n, rfl, s2⟩ := dp_ints d2
        exact ⟨_, m, n, xs, rfl, s, s1, d1, s2⟩
def spRowsOf (K : PySem.W.Frag) : Sp := fun vs H Q _ => ∃ (v : V) (rs : List Line), vs = [v] ∧ Dp K H v (pieceD rs) ∧ (∀ r ∈ rs, r.is ≠ [] ∧ r.is.length ≤ 100) ∧ rs.length ≤ 1000 ∧
  ∀ H' p bs, Same H H' → Own H' (rowsD rs) (.ref p) bs → New H bs → bs.Nodup → Q (.ref p) H'
theorem own_line {H : Hp} {p : Addr} {r : Line} (h : H p = some (.tup (IL r.row))) : Own H (lineD r) (.ref p) [p] := by
  have e : ∀ ns : List Int, OwnAll H (ns.map PyData.int) (IL ns) [] := fun ns => own_ints ns
  exact ⟨p, _, [], rfl, h, e _, rfl⟩
structure TxtG8 (mg : Str → Option Value) : Prop where
  tuple : mg "tuple" = none
  zip : mg "zip" = none
section
variable {P : Program} {w : World} {K : PySem.W.Frag} {mg : Str → Option Value} {base : Heap}
theorem scRowsOf : FnScope ["piece", "integers", "amount"] ["piece"] (defScope sRowsOf) := ⟨rfl, rfl, rfl, by decide +kernel, rfl, by decide +kernel, by decide +kernel⟩
theorem ok_rowsof {f : Addr} {fd : FuncData} (F : Fun K "rows_of" "rows_of" sRowsOf f fd) (T : TxtG8 mg) : FnOk P w K mg base CX0 1 f fd ["piece"] (spRowsOf K) := by
  have nd := scRowsOf.nd
  refine F.ok scRowsOf (fun vs H Q E h => ?_) (fun cdv A outer s H vs Q E hr h => ?_)
  · obtain ⟨v, rs, rfl, _⟩ := h
    rfl
  · obtain ⟨v, rs, rfl, hv, ok, few, q⟩ := h
    refine ⟨_, pss_one (ps_ret (pe_callTy call_tuple_of (by rfl) T.tuple (by decide +kernel) (pa_cons (pe_lc (own := [("integers", 1), ("amount", 2)]) (g := gTup K 2 (gCons (gName 1) (gCons (gName 2) gNil))) rfl nd
      (pi_zip (by rfl) T.zip (pa_cons (pe_ix ix_tup (pv 0) pe_int (fun _ _ => rfl)) (pa_cons (pe_ix ix_tup (pv 0) pe_int (fun _ _ => rfl)) pa_nil)))
      (blkOk_by (N := ["piece", "integers", "amount"]) (sc := defScope sRowsOf) (by decide +kernel)) (fun _ _ _ _ _ => pg_tup rfl (pgs_cons (pg_name (i := 1) nd rfl (Or.inl rfl)) (pgs_cons (pg_name (i := 2) nd rfl (Or.inl rfl)) pgs_nil))) (fun _ _ _ _ _ => pts_nil)
      (fun _ _ _ _ _ => pe_op (show OpR _ _ (rCatT K) from op_catT) (pe_callTy (T := "tuple") (show CallR _ (.type "tuple") (rTupOf K) from call_tuple_of) (by rfl) T.tuple (by decide +kernel) (pa_cons (pv 1) pa_nil)) (pe_tup (pa_cons (pv 2) pa_nil)))) pa_nil))), ?_⟩
    obtain ⟨t, m, n, xs, rfl, st, sm', dm, sn⟩ := dp_piece hv
    have lx : xs.length = rs.length := by have := dpAll_len dm; rwa [List.length_map] at this
    have ln : (IL (rs.map (·.am))).length = rs.length := by unfold IL; rw [List.length_map, List.length_map]
    refine ⟨_, rfl, t, _, _, .ref m, rfl, rfl, st, rfl, _, rfl, t, _, _, .ref n, rfl, rfl, st, rfl, m, n, xs, _, rfl, sm', sn, fun D hD => ?_⟩
    refine lc_it (walk_zip (K := K) (a := m) (b := n) (xs := xs) (ys := IL (rs.map (·.am))) (n := rs.length) (by omega)) (fun i H' => ∃ vs cs, Filling H H' D ((rs.take i).map lineD) vs cs ∧ vs.length = i) ⟨_, _, Filling.start hD, rfl⟩ (fun i H' _ ⟨_, _, Fl, _⟩ => ⟨Fl.same.seq sm', Fl.same.seq sn⟩) ?_ ?_
    · rintro i x H1 H1' hi ⟨vs, cs, Fl, hvl⟩ ⟨T', vx, vy, rfl, hT, rfl, hx, hy⟩
      have hx' : xs[i]? = some vx := hx
      have hy' : (IL (rs.map (·.am)))[i]? = some vy := hy
      obtain ⟨d, hd1, hd2⟩ := dpAll_get dm hx'
      rw [List.getElem?_map] at hd1
      obtain ⟨r, er, rfl⟩ := Option.map_eq_some_iff.mp hd1
      obtain ⟨ia, rfl, si⟩ := dp_ints hd2
      have ey : vy = V.int r.am := by
        unfold IL at hy'
        rw [List.getElem?_map, List.getElem?_map, er] at hy'
        exact (Option.some.inj hy').symm
      subst ey
      obtain ⟨rne, rlen⟩ := ok r (List.mem_of_getElem? er)
      have zT := same_new (o := .tup [V.ref ia, V.int r.am]) hT
      have li : (IL r.is).length = r.is.length := List.length_map ..
      have sz : (1000 : Nat) ≤ sizeLine := by decide
      refine ⟨T', _, rfl, SqT.of upd_same, rfl, _, _, rfl, _, _, rfl, rfl, rfl, ?_⟩
      refine ⟨_, rfl, ia, _, rfl, .inl ⟨(Fl.same.trans zT).seq si, fun p0 hp0 => ⟨_, rfl, (by show 1 ≤ sizeLine; decide), fun p1 hp1 => ?_⟩⟩⟩
      have z0 := same_new (o := .tup (IL r.is)) hp0
      have z1 := same_new (o := .tup [V.int r.am]) hp1
      have ne0 : IL r.is ≠ [] := fun z => rne (List.map_eq_nil_iff.mp z)
      refine ⟨p0, p1, _, _, rfl, rfl, SqT.of (z1 _ _ upd_same), SqT.of upd_same, ne0, (by show _ + 1 ≤ sizeLine; omega), fun z => absurd z (by simp), fun _ p2 hp2 => ?_⟩
      have z2 := same_new (o := .tup (IL r.is ++ [V.int r.am])) hp2
      have er2 : IL r.is ++ [V.int r.am] = IL r.row := by
        unfold IL Line.row
        rw [List.map_append]
        rfl
      have kk := zT.trans (z0.trans (z1.trans z2))
      refine ⟨vs, kk _ _ Fl.at_, Nat.lt_of_le_of_lt (show vs.length ≤ 1000 by omega) (by decide), vs ++ [.ref p2], cs ++ [p2], ?_, by rw [List.length_append, hvl]; rfl⟩
      have tk : (rs.take (i + 1)).map lineD = (rs.take i).map lineD ++ [lineD r] := by
        rw [List.take_add_one, er, List.map_append]
        rfl
      rw [tk]
      exact Fl.more hD kk (own_line (by rw [upd_same, er2])) (fun b hb => by
        rw [List.mem_singleton.mp hb]
        exact (zT.trans (z0.trans z1)).free hp2) (by simp)
    · rintro H1 ⟨vs, cs, Fl, hvl⟩
      rw [List.take_length] at Fl
      refine ⟨D, vs, rfl, .inl ⟨SqL.of Fl.at_, fun p hp => ?_⟩⟩
      obtain ⟨z1, z2, z3, z4⟩ := Fl.tuple hp
      exact q _ _ _ z4 z1 z2 z3
end
end K09

set_option Elab.async false
set_option linter.all false
set_option maxRecDepth 100000
set_option maxHeartbeats 4000000
set_option exponentiation.threshold 5000
namespace K09
open PySem L2 DL PySem.HouseX CM
/-- a table in the heap: moduli and rows for each place -/
structure TabAt (K : PySem.W.Frag) (H : Hp) (r : Addr) (ls : List Nat) (es : List (List Line)) : Prop where
  ex : ∃ t b xs, SqT K H r [.ref t, .ref b] ∧ SqT K H t (NL ls) ∧ SqL K H b xs ∧ DpAll K H xs (es.map rowsD)
  pos : ∀ m ∈ ls, 0 < m
  len : es.length = FM.vol ls
  few : FM.vol ls < 1000000
theorem TabAt.same {K : PySem.W.Frag} {H H' : Hp} {r : Addr} {ls : List Nat} {es : List (List Line)} (T : TabAt K H r ls es) (k : Same H H') : TabAt K H' r ls es := by
  obtain ⟨⟨t, b, xs, h1, h2, h3, h4⟩, p, l, f⟩ := T
  exact ⟨⟨t, b, xs, sqT_same k h1, sqT_same k h2, k.seq h3, dpAll_same k h4⟩, p, l, f⟩
def rowsOf (ls : List Nat) (es : List (List Line)) (st : List Int) : List Line := es.getD (FM.plc ls (modI ls st)) []
def spRowsFor (K : PySem.W.Frag) : Sp := fun vs H Q _ => ∃ (r b : Addr) (ls : List Nat) (es : List (List Line)) (st : List Int), vs = [.ref r, .ref b] ∧ TabAt K H r ls es ∧ SqL K H b (IL st) ∧ st.length = ls.length ∧
  ∀ H' v, Same H H' → Dp K H' v (rowsD (rowsOf ls es st)) → Q v H'
def spResAt (K : PySem.W.Frag) : Sp := fun vs H Q _ => ∃ (r b : Addr) (ls : List Nat) (es : List (List Line)) (st : List Int), vs = [.ref r, .ref b] ∧ TabAt K H r ls es ∧ SqL K H b (IL st) ∧ st.length = ls.length ∧ st.length ≤ 100 ∧ (∀ x ∈ st, x.natAbs ≤ 10 ^ 9) ∧
  (∀ rs ∈ es, rs.length ≤ 100 ∧ ∀ l ∈ rs, LineOk ls.length l) ∧ ∀ H' p, Same H H' → SqT K H' p (IL ((rowsOf ls es st).map (·.at st))) → Q (.ref p) H'
section
variable {P : Program} {w : World} {K : PySem.W.Frag} {mg : Str → Option Value} {base : Heap}
end
end K09

set_option Elab.async false
set_option linter.all false
set_option maxRecDepth 100000
set_option maxHeartbeats 4000000
set_option exponentiation.threshold 5000
namespace FM
theorem tab_map {α β : Type} (g : α → β) : ∀ (ms : List Nat) (F : List Nat → α), tab ms (fun r => g (F r)) = (tab ms F).map g
  | [], _ => rfl
  | m :: ms, F => by
    show (List.range m).flatMap (fun a => tab ms fun r => g (F (a :: r))) = ((List.range m).flatMap fun a => tab ms fun r => F (a :: r)).map g
    rw [List.map_flatMap]
    congr 1
    funext a
    exact tab_map g ms _
theorem PdC.comp {α β : Type} {F : List Nat → α} {g : α → β} {n i q : Nat} (h : PdC F n i q) : PdC (fun s => g (F s)) n i q := fun r1 a r2 h1 h2 => congrArg g (h r1 a r2 h1 h2)
theorem PdC.uncomp {α β : Type} {F : List Nat → α} {g : α → β} (inj : ∀ x y, g x = g y → x = y) {n i q : Nat} (h : PdC (fun s => g (F s)) n i q) : PdC F n i q := fun r1 a r2 h1 h2 => inj _ _ (h r1 a r2 h1 h2)
theorem Told.comp {α β : Type} {F : List Nat → α} {g : α → β} {ms : List Nat} {p : List α} (T : Told F ms p) : Told (fun s => g (F s)) ms (p.map g) :=
  ⟨T.pos, fun pre m suf e => (T.per pre m suf e).comp, by rw [tab_map, ← T.tab]⟩
theorem Told.uncomp {α β : Type} {F : List Nat → α} {g : α → β} (inj : ∀ x y, g x = g y → x = y) {ms : List Nat} {p : List β} (T : Told (fun s => g (F s)) ms p) : Told F ms (FM.tab ms F) ∧ p = (FM.tab ms F).map g :=
  ⟨⟨T.pos, fun pre m suf e => (T.per pre m suf e).uncomp inj, rfl⟩, by rw [T.tab, tab_map]⟩
theorem LeastT.uncomp {α β : Type} {F : List Nat → α} {g : α → β} (inj : ∀ x y, g x = g y → x = y) {ms : List Nat} (L : LeastT (fun s => g (F s)) ms) : LeastT F ms :=
  ⟨fun pre m suf e => by
    obtain ⟨h1, h2, h3⟩ := L.least pre m suf e
    exact ⟨h1, h2.uncomp inj, fun q hq P => h3 q hq P.comp⟩⟩
end FM
namespace K09
open PySem L2 DL PySem.HouseX CM
theorem ints_inj : ∀ {a b : List Int}, a.map PyData.int = b.map PyData.int → a = b
  | [], [], _ => rfl
  | x :: a, y :: b, h => by
    simp only [List.map_cons, List.cons.injEq, PyData.int.injEq] at h
    rw [h.1, ints_inj h.2]
  | [], _ :: _, h => by simp at h
  | _ :: _, [], h => by simp at h
theorem line_inj {r s : Line} (h : lineD r = lineD s) : r = s := by
  unfold lineD at h
  have e := ints_inj (PyData.tuple.inj h)
  obtain ⟨a, b⟩ := r
  obtain ⟨c, d⟩ := s
  simp only [Line.row] at e
  obtain ⟨h1, h2⟩ := List.append_inj' e rfl
  rw [h1, (List.cons.inj h2).1]
theorem rows_inj : ∀ x y, rowsD x = rowsD y → x = y := fun x y h => by
  have e : x.map lineD = y.map lineD := PyData.tuple.inj h
  clear h
  induction x generalizing y with
  | nil =>
    cases y with
    | nil => rfl
    | cons _ _ => simp at e
  | cons a x ih =>
    cases y with
    | nil => simp at e
    | cons b y =>
      simp only [List.map_cons, List.cons.injEq] at e
      rw [line_inj e.1, ih y e.2]
theorem rows_depth (rs : List Line) : (rowsD rs).depth ≤ 2 := by
  have h : PyData.depthAll (rs.map lineD) ≤ 1 := depthAll_le.mpr fun d hd => by
    obtain ⟨r, _, rfl⟩ := List.mem_map.mp hd
    have := (lay_il r.row).2
    simp only [lineD, PyData.depth]
    omega
  simp only [rowsD, PyData.depth]
  omega
def formD (ms : List Nat) (ps : List (List Line)) : PyData := .tuple [.list ((ms.map fun m : Nat => (m : Int)).map PyData.int), .list (ps.map pieceD)]
theorem dp_form {K : PySem.W.Frag} {H : Hp} {v : V} {ms : List Nat} {ps : List (List Line)} (h : Dp K H v (formD ms ps)) : ∃ t a b xs, v = .ref t ∧ SqT K H t [.ref a, .ref b] ∧ SqL K H a (NL ms) ∧ SqL K H b xs ∧ DpAll K H xs (ps.map pieceD) := by
  unfold formD at h
  cases h with
  | tup s d =>
    cases d with
    | cons d1 d =>
      cases d with
      | cons d2 d =>
        cases d
        obtain ⟨a, rfl, s1⟩ := dp_ints d1
        obtain ⟨b, xs, rfl, s2, d2⟩ := dp_list d2
        refine ⟨_, a, b, xs, rfl, s, ?_, s2, d2⟩
        have e : IL (ms.map fun m : Nat => (m : Int)) = NL ms := by
          unfold IL NL
          rw [List.map_map]
          rfl
        rw [← e]
        exact s1
def PieceOk (rs : List Line) : Prop := rs.length ≤ 100 ∧ ∀ r ∈ rs, r.is ≠ [] ∧ r.is.length ≤ 100
/-- what a form tells of all states -/
def formF (ms : List Nat) (ps : List (List Line)) : List Nat → List Line := FM.told ms ps []
def spTableOf (K : PySem.W.Frag) : Sp := fun vs H Q _ => ∃ (v : V) (ms : List Nat) (ps : List (List Line)), vs = [v] ∧ Dp K H v (formD ms ps) ∧ (∀ m ∈ ms, 0 < m) ∧ ps.length = FM.vol ms ∧ FM.vol ms < 1000000 ∧ ms.length ≤ 100 ∧ (∀ rs ∈ ps, PieceOk rs) ∧
  ∀ H' r ls, Same H H' → TabAt K H' r ls (FM.tab ls (formF ms ps)) → FM.Told (formF ms ps) ls (FM.tab ls (formF ms ps)) → FM.LeastT (formF ms ps) ls → ls.length = ms.length → Q (.ref r) H'
structure TxtG10 (mg : Str → Option Value) (fL fR : Addr) : Prop where
  tuple : mg "tuple" = none
  gL : mg "least_way" = some (.ref fL)
  gR : mg "rows_of" = some (.ref fR)
section
variable {P : Program} {w : World} {K : PySem.W.Frag} {mg : Str → Option Value} {base : Heap}
theorem scTableOf : FnScope ["form", "moduli", "pieces", "piece"] ["form"] (defScope sTableOf) := ⟨rfl, rfl, rfl, by decide +kernel, rfl, by decide +kernel, by decide +kernel⟩
theorem ok_tableof {f fL fR : Addr} {fd fdL fdR : FuncData} (F : Fun K "table_of" "table_of" sTableOf f fd) (T : TxtG10 mg fL fR)
    (GL : FnOk P w K mg base CX0 2 fL fdL ["moduli", "pieces"] (spLeastW K)) (kL : PySem.W.keepIn K (.ref fL) = true) (bL : Binds K fdL ["moduli", "pieces"] [])
    (GR : FnOk P w K mg base CX0 1 fR fdR ["piece"] (spRowsOf K)) (kR : PySem.W.keepIn K (.ref fR) = true) (bR : Binds K fdR ["piece"] []) : FnOk P w K mg base CX0 3 f fd ["form"] (spTableOf K) := by
  have nd := scTableOf.nd
  refine F.ok scTableOf (fun vs H Q E h => ?_) (fun cdv A outer s H vs Q E hr h => ?_)
  · obtain ⟨_, _, _, rfl, _⟩ := h
    rfl
  · obtain ⟨v, ms, ps, rfl, hv, pos, pl, few, mfew, ok, q⟩ := h
    have hr1 : Room 1 _ := hr.mono (by decide)
    refine ⟨_, pss_cons (ps_asg (pv 0) (pg_tup rfl (pgs_cons (pg_name (i := 1) nd rfl (Or.inl rfl)) (pgs_cons (pg_name (i := 2) nd rfl (Or.inl rfl)) pgs_nil))))
      (pss_one (ps_ret (pe_call GL hr rfl T.gL kL bL .nil pass0 (pa_cons (pe_callTy call_tuple_of (by rfl) T.tuple (by decide +kernel) (pa_cons (pv 1) pa_nil))
        (pa_cons (pe_lc (own := [("piece", 3)]) (g := gName 3) rfl nd (pi_list (pv 2)) (blkOk_by (N := ["form", "moduli", "pieces", "piece"]) (sc := defScope sTableOf) (by decide +kernel)) (fun _ _ _ _ _ => pg_name (i := 3) nd rfl (Or.inl rfl)) (fun _ _ _ _ _ => pts_nil)
          (fun _ _ _ _ _ => pe_call GR hr1 rfl T.gR kR bR .nil pass0 (pa_cons (pv 3) pa_nil))) pa_nil))))), ?_⟩
    obtain ⟨t, a, b, xs, rfl, st, sa, sb, dx⟩ := dp_form hv
    have xl : xs.length = ps.length := by have := dpAll_len dx; rwa [List.length_map] at this
    refine ⟨_, rfl, t, _, rfl, st, rfl, _, _, rfl, _, _, rfl, rfl, ?_⟩
    refine ⟨_, rfl, a, _, rfl, .inl ⟨sa, fun tm htm => ?_⟩⟩
    have z0 := same_new (o := .tup (NL ms)) htm
    have tm0 : upd H tm (.tup (NL ms)) tm = some (.tup (NL ms)) := upd_same
    refine ⟨_, rfl, b, rfl, ⟨_, z0.seq sb⟩, fun D hD => ?_⟩
    refine lc_list (K := K) (a := b) (xs := xs) (fun i H' => ∃ vs cs, Filling (upd H tm (.tup (NL ms))) H' D ((ps.take i).map rowsD) vs cs ∧ vs.length = i) ⟨_, _, Filling.start hD, rfl⟩ (fun i H' _ ⟨_, _, Fl, _⟩ => (z0.trans Fl.same).seq sb) ?_ ?_
    · rintro i x H1 hx ⟨vs, cs, Fl, hvl⟩
      obtain ⟨d, hd1, hd2⟩ := dpAll_get dx hx
      rw [List.getElem?_map] at hd1
      obtain ⟨rs, er, rfl⟩ := Option.map_eq_some_iff.mp hd1
      have il := (List.getElem?_eq_some_iff.mp er).1
      obtain ⟨o1, o2⟩ := ok rs (List.mem_of_getElem? er)
      refine ⟨rfl, _, rfl, x, rs, rfl, dp_same (z0.trans Fl.same) hd2, o2, by omega, fun H2 p bs sm ow nw nd2 => ?_⟩
      refine ⟨vs, sm _ _ Fl.at_, Nat.lt_of_le_of_lt (show vs.length ≤ 1000000 by omega) (by decide), vs ++ [.ref p], cs ++ bs, ?_, by rw [List.length_append, hvl]; rfl⟩
      have tk : (ps.take (i + 1)).map rowsD = (ps.take i).map rowsD ++ [rowsD rs] := by
        rw [List.take_add_one, er, List.map_append]
        rfl
      rw [tk]
      exact Fl.more hD sm ow nw nd2
    · rintro H1 ⟨vs, cs, Fl, hvl⟩
      rw [xl, List.take_length] at Fl
      have TF : FM.Told (formF ms ps) ms ps := FM.told_told pos pl
      have dD : PyData.depthAll (ps.map rowsD) ≤ 20 := depthAll_le.mpr fun d hd => by
        obtain ⟨rs, _, rfl⟩ := List.mem_map.mp hd
        exact Nat.le_trans (rows_depth rs) (by decide)
      have iD : IntDs (ps.map rowsD) := intDs_iff.mpr fun d hd => by
        obtain ⟨rs, _, rfl⟩ := List.mem_map.mp hd
        exact intD_rows rs
      refine ⟨tm, D, ms, vs, ps.map rowsD, fun s => rowsD (formF ms ps s), rfl, SqT.of (Fl.same _ _ tm0), Fl.at_, Fl.own.dp, iD, dD, TF.comp, few, mfew, fun H2 r t2 b2 ls ys es sm hr2 ht2 hb2 hys sub TL LL lls => ?_⟩
      obtain ⟨T3, e3⟩ := TL.uncomp rows_inj
      have L3 := LL.uncomp rows_inj
      have lv : FM.vol ls ≤ FM.vol ms := by
        refine vol_mono pos lls fun i a b ha hb => ?_
        have la := (List.getElem?_eq_some_iff.mp ha)
        have lb := (List.getElem?_eq_some_iff.mp hb)
        have e1 : ls = ls.take i ++ a :: ls.drop (i + 1) := by rw [← la.2, ← List.drop_eq_getElem_cons la.1, List.take_append_drop]
        have e2 : ms = ms.take i ++ b :: ms.drop (i + 1) := by rw [← lb.2, ← List.drop_eq_getElem_cons lb.1, List.take_append_drop]
        have Pb := TF.per _ _ _ e2
        have k1 : (ls.take i).length = i := by rw [List.length_take]; have := la.1; omega
        have k2 : (ms.take i).length = i := by rw [List.length_take]; have := lb.1; omega
        rw [k2] at Pb
        have b0 : 0 < b := pos b (List.mem_of_getElem? hb)
        exact Nat.le_of_dvd b0 ((L3.least _ _ _ e1).2.2 b b0 (by rw [k1, lls]; exact Pb))
      rw [e3] at hys
      exact q H2 r ls ((z0.trans Fl.same).trans sm) ⟨⟨t2, b2, ys, SqT.of hr2, SqT.of ht2, SqL.of hb2, hys⟩, T3.pos, FM.tab_len _ _, Nat.lt_of_le_of_lt lv few⟩ T3 L3 lls
end
end K09

set_option Elab.async false
set_option linter.all false
set_option maxRecDepth 100000
set_option maxHeartbeats 4000000
set_option exponentiation.threshold 5000
namespace L2
/-- as many turns as the shorter tuple has -/
theorem walk_zipT {K : PySem.W.Frag} {a b : PySem.Addr} {xs ys : List V} {n : Nat} (hn : n = min xs.length ys.length) : Walk (RZ.ItzT K a b) n (fun H => SqT K H a xs ∧ SqT K H b ys) (YPair (fun i => xs[i]?) (fun i => ys[i]?)) :=
  ⟨fun i _ hi q => ⟨xs, ys, xs[i]'(by omega), ys[i]'(by omega), q.1, q.2, by simp [show i < xs.length by omega], by simp [show i < ys.length by omega]⟩, fun _ q => ⟨xs, ys, q.1, q.2, by omega⟩,
    fun i H v H' _ q ⟨T, x, y, h1, h2, h3, h4, h5⟩ => ⟨T, x, y, h1, h2, h3, h4 xs q.1, h5 ys q.2⟩⟩
end L2
namespace K09
open PySem L2 DL PySem.HouseX CM
def lcms : List Nat → List Nat → List Nat
  | m :: ms, n :: ns => Nat.lcm m n :: lcms ms ns
  | _, _ => []
theorem lcms_range : ∀ {ms ns : List Nat}, ms.length = ns.length → lcms ms ns = (List.range ns.length).map fun i => Nat.lcm (ms.getD i 0) (ns.getD i 0)
  | [], [], _ => rfl
  | m :: ms, n :: ns, h => by
    show Nat.lcm m n :: lcms ms ns = _
    rw [lcms_range (Nat.succ.inj h), List.length_cons, List.range_succ_eq_map, List.map_cons, List.map_map]
    rfl
def spComMod (K : PySem.W.Frag) : Sp := fun vs H Q _ => ∃ (l t1 t2 : Addr) (ms ns : List Nat), vs = [.ref l] ∧ H l = some (.lst [.ref t1, .ref t2]) ∧ SqT K H t1 (NL ms) ∧ SqT K H t2 (NL ns) ∧ ms.length = ns.length ∧ ns.length ≤ 100 ∧ (∀ m ∈ ms, m < 1000000) ∧ (∀ m ∈ ns, m < 1000000) ∧
  ∀ H' p, Same H H' → SqT K H' p (NL (lcms ms ns)) → Q (.ref p) H'
structure TxtG11 (mg : Str → Option Value) : Prop where
  tuple : mg "tuple" = none
  zip : mg "zip" = none
  lcm : mg "lcm" = some (.builtin "math.lcm")
section
variable {P : Program} {w : World} {K : PySem.W.Frag} {mg : Str → Option Value} {base : Heap}
end
end K09

set_option Elab.async false
set_option linter.all false
set_option maxRecDepth 100000
set_option maxHeartbeats 4000000
set_option exponentiation.threshold 5000
namespace K09
open PySem L2 DL PySem.HouseX CM
theorem ixN_nat {n k : Nat} (h : k < n) : ixN n (k : Int) = some k := by
  unfold ixN
  rw [if_pos (show (0 : Int) ≤ (k : Int) by omega)]
  simp [h]
def spMoved (K : PySem.W.Frag) : Sp := fun vs H Q _ => ∃ (a : Addr) (st : List Int) (k : Nat) (x : Int), vs = [.ref a, .int k, .int x] ∧ SqL K H a (IL st) ∧ k < st.length ∧ ∀ H' p, Same H H' → H p = none → H' p = some (.lst (IL (st.set k x))) → Q (.ref p) H'
section
variable {P : Program} {w : World} {K : PySem.W.Frag} {mg : Str → Option Value} {base : Heap}
theorem scLMoved : FnScope ["_law_state_here", "_law_rank", "_law_amount", "_law_found"] ["_law_state_here", "_law_rank", "_law_amount"] (defScope sLMoved) := ⟨rfl, rfl, rfl, by decide +kernel, rfl, by decide +kernel, by decide +kernel⟩
theorem ok_lmoved {f : Addr} {fd : FuncData} (F : Fun K "_law_hd_moved" "_law_hd_moved" sLMoved f fd) (list : mg "list" = none) : FnOk P w K mg base CX0 1 f fd ["_law_state_here", "_law_rank", "_law_amount"] (spMoved K) := by
  have nd := scLMoved.nd
  refine F.ok scLMoved (fun vs H Q E h => ?_) (fun cdv A outer s H vs Q E hr h => ?_)
  · obtain ⟨_, _, _, _, rfl, _⟩ := h
    rfl
  · obtain ⟨a, st, k, x, rfl, ha, hk, q⟩ := h
    refine ⟨_, pss_cons (ps_set (i := 3) nd rfl (Or.inl rfl) (pe_callTy call_list_of (by rfl) list (by decide +kernel) (pa_cons (pv 0) pa_nil)))
      (pss_cons (ps_asg (pv 2) (pg_sub (pv 3) (pv 1) set_list)) (pss_one (ps_ret (pv 3)))), ?_⟩
    have l1 : (IL st).length = st.length := List.length_map ..
    refine ⟨_, rfl, a, _, rfl, .inl ha, fun p hp => ?_⟩
    have z := same_new (o := .lst (IL st)) hp
    refine ⟨_, rfl, _, rfl, _, rfl, p, IL st, _, k, rfl, rfl, upd_same, by rw [l1]; exact ixN_nat hk, ?_⟩
    refine ⟨_, rfl, ?_⟩
    refine q _ p (fun b o e => ?_) hp ?_
    · rw [upd_ne (ne_of_none e hp)]
      exact z b o e
    · rw [upd_same]
      unfold IL
      rw [List.map_set]
end
end K09

set_option Elab.async false
set_option linter.all false
set_option maxRecDepth 100000
set_option maxHeartbeats 4000000
set_option exponentiation.threshold 5000
namespace K09
open PySem L2 DL PySem.HouseX CM
def spLPiece (K : PySem.W.Frag) : Sp := fun vs H Q _ => ∃ (v : V) (b : Addr) (ms : List Nat) (ps : List (List Line)) (st : List Int), vs = [v, .ref b] ∧ Dp K H v (formD ms ps) ∧ SqL K H b (IL st) ∧ (∀ m ∈ ms, 0 < m) ∧ st.length = ms.length ∧ ps.length = FM.vol ms ∧ FM.vol ms < 1000000 ∧
  ∀ H' u, Same H H' → Dp K H' u (pieceD (rowsOf ms ps st)) → Q u H'
structure TxtG13 (mg : Str → Option Value) : Prop where
  zip : mg "zip" = none
  int : mg "int" = none
section
variable {P : Program} {w : World} {K : PySem.W.Frag} {mg : Str → Option Value} {base : Heap}
theorem scLPiece : FnScope ["_law_form", "_law_state_here", "_law_spot", "_law_amount", "_law_modulus_here"] ["_law_form", "_law_state_here"] (defScope sLPiece) := ⟨rfl, rfl, rfl, by decide +kernel, rfl, by decide +kernel, by decide +kernel⟩
theorem ok_lpiece {f : Addr} {fd : FuncData} (F : Fun K "_law_hd_piece" "_law_hd_piece" sLPiece f fd) (T : TxtG13 mg) : FnOk P w K mg base CX0 1 f fd ["_law_form", "_law_state_here"] (spLPiece K) := by
  have nd := scLPiece.nd
  refine F.ok scLPiece (fun vs H Q E h => ?_) (fun cdv A outer s H vs Q E hr h => ?_)
  · obtain ⟨_, _, _, _, _, rfl, _⟩ := h
    rfl
  · obtain ⟨v, b, ms, ps, st, rfl, hv, hb, pos, len, pl, few, q⟩ := h
    refine ⟨_, pss_cons (ps_set (i := 2) nd rfl (Or.inl rfl) pe_int) (pss_cons (ps_for PassesOwn.never rfl (pi_zip (by rfl) T.zip (pa_cons (pv 1) (pa_cons (pe_ix ix_tup (pv 0) pe_int (fun _ _ => rfl)) pa_nil))) (pg_tup rfl (pgs_cons (pg_name (i := 3) nd rfl (Or.inl rfl)) (pgs_cons (pg_name (i := 4) nd rfl (Or.inl rfl)) pgs_nil)))
      (pss_one (ps_set (i := 2) nd rfl (Or.inl rfl) (pe_op op_add (pe_op op_mul (pv 2) (pv 4)) (pe_op op_modN (pe_callTy call_int1 (by rfl) T.int (by decide +kernel) (pa_cons (pv 3) pa_nil)) (pv 4))))))
      (pss_one (ps_ret (pe_ix ix_list (pe_ix ix_tup (pv 0) pe_int (fun _ _ => rfl)) (pv 2) (fun _ _ => rfl))))), ?_⟩
    obtain ⟨t, a, c, xs, rfl, h1, ha, h3, h4⟩ := dp_form hv
    have l1 : (NL ms).length = ms.length := List.length_map ..
    have l2 : (IL st).length = st.length := List.length_map ..
    refine ⟨_, rfl, _, rfl, t, _, _, .ref a, rfl, rfl, h1, rfl, b, a, IL st, NL ms, rfl, hb, ha, ?_⟩
    refine for_it (walk_zip (K := K) (a := b) (b := a) (xs := IL st) (ys := NL ms) (n := ms.length) (by omega)) (fun i σ H' => Same H H' ∧ ∃ (acc : Nat) (x3 x4 : Option V), σ = [some (.ref t), some (.ref b), some (.int ((acc : Nat) : Int)), x3, x4] ∧ hor acc (ms.drop i) (st.drop i) = hor 0 ms st ∧ acc < FM.vol (ms.take i))
      ⟨Same.refl _, 0, _, _, rfl, rfl, by simp [FM.vol]⟩ (fun i σ H' _ ⟨k, _⟩ => ⟨k.seq hb, k.seq ha⟩) ?_ ?_
    · rintro i x σ H1 H1' hi ⟨sm, acc, x3, x4, rfl, hor', hacc⟩ ⟨T', vx, vy, rfl, hT, rfl, hx, hy⟩
      have hx' : (IL st)[i]? = some vx := hx
      have hy' : (NL ms)[i]? = some vy := hy
      obtain rfl := map_at (d := 0) hx'
      obtain rfl := map_at (d := 0) hy'
      obtain ⟨m, hm⟩ : ∃ m, m = ms.getD i 0 := ⟨_, rfl⟩
      obtain ⟨y, hyy⟩ : ∃ y, y = st.getD i 0 := ⟨_, rfl⟩
      have em : ms[i]? = some m := by rw [hm, List.getD_eq_getElem?_getD, List.getElem?_eq_getElem hi]; rfl
      have ey : st[i]? = some y := by rw [hyy, List.getD_eq_getElem?_getD, List.getElem?_eq_getElem (by omega)]; rfl
      rw [← hm, ← hyy]
      have m0 : 0 < m := pos m (List.mem_of_getElem? em)
      have v1 := vol_take pos (i + 1)
      have v9 := vol_take pos i
      rw [vol_snoc hi, ← hm] at v1
      have q1 : (acc + 1) * m ≤ FM.vol (ms.take i) * m := Nat.mul_le_mul_right _ hacc
      rw [Nat.succ_mul] at q1
      have vp : 0 < FM.vol (ms.take i) := by omega
      have mm : m ≤ FM.vol (ms.take i) * m := Nat.le_mul_of_pos_left _ vp
      have z1 := Int.emod_nonneg y (show (m : Int) ≠ 0 by omega)
      have z2 := Int.emod_lt_of_pos y (show (0 : Int) < m by omega)
      have fe : y.fmod (m : Int) = y % (m : Int) := Int.fmod_eq_emod_of_nonneg _ (by omega)
      refine ⟨T', _, rfl, SqT.of upd_same, rfl, _, _, rfl, _, _, rfl, rfl, ?_⟩
      refine ⟨_, rfl, _, rfl, _, _, rfl, rfl, .inl ⟨by omega, by omega⟩, _, rfl, .inl ⟨_, rfl, ?_⟩⟩
      refine ⟨_, rfl, _, _, rfl, rfl, by omega, _, _, rfl, rfl, ?_⟩
      refine ⟨sm.trans (same_new hT), acc * m + (y % (m : Int)).toNat, some (.int y), some (.int (m : Int)), ?_, ?_, ?_⟩
      · refine congrArg (fun v => [some (V.ref t), some (V.ref b), some (V.int v), some (V.int y), some (V.int (m : Int))]) ?_
        rw [fe, Int.natCast_add, Int.natCast_mul, Int.toNat_of_nonneg z1]
      · rw [← hor', hor_drop em ey, Int.natCast_add, Int.natCast_mul, Int.toNat_of_nonneg z1]
      · rw [vol_snoc hi, ← hm]
        omega
    · rintro σ H1 ⟨sm, acc, x3, x4, rfl, hor', hacc⟩
      have e := hor_eq (ms := ms) (st := st) (acc := 0) pos len
      rw [← hor', List.drop_length, Int.zero_mul, Int.zero_add] at e
      have e2 : (acc : Int) = ((FM.plc ms (modI ms st) : Nat) : Int) := by
        rw [← e, List.drop_of_length_le (by omega)]
        rfl
      have il : FM.plc ms (modI ms st) < ps.length := by
        rw [pl]
        exact FM.plc_lt (modI_rest pos len)
      have xl : xs.length = ps.length := by have := dpAll_len h4; rwa [List.length_map] at this
      have ex : xs[FM.plc ms (modI ms st)]? = some (xs[FM.plc ms (modI ms st)]'(by omega)) := List.getElem?_eq_getElem (by omega)
      obtain ⟨d, hd1, hd2⟩ := dpAll_get (dpAll_same sm h4) ex
      rw [List.getElem?_map, List.getElem?_eq_getElem il] at hd1
      have ed : d = pieceD (rowsOf ms ps st) := by
        unfold rowsOf
        rw [List.getD_eq_getElem?_getD, List.getElem?_eq_getElem il]
        exact (Option.some.inj hd1).symm
      rw [ed] at hd2
      exact ⟨_, rfl, t, _, _, .ref c, rfl, rfl, sqT_same sm h1, rfl, _, rfl, c, xs, _, _, rfl, rfl, sm.seq h3, by rw [e2]; exact atI_nat ex, q H1 _ sm hd2⟩
end
end K09

set_option Elab.async false
set_option linter.all false
set_option maxRecDepth 100000
set_option maxHeartbeats 4000000
set_option exponentiation.threshold 5000
namespace K09
open PySem L2 DL PySem.HouseX CM
def spLAt (K : PySem.W.Frag) : Sp := fun vs H Q _ => ∃ (v : V) (b : Addr) (ms : List Nat) (ps : List (List Line)) (st : List Int), vs = [v, .ref b] ∧ Dp K H v (formD ms ps) ∧ SqL K H b (IL st) ∧ (∀ m ∈ ms, 0 < m) ∧ st.length = ms.length ∧ ps.length = FM.vol ms ∧ FM.vol ms < 1000000 ∧ st.length ≤ 100 ∧ (∀ x ∈ st, x.natAbs ≤ 10 ^ 9) ∧
  (∀ rs ∈ ps, rs.length ≤ 100 ∧ ∀ l ∈ rs, LineOk ms.length l) ∧ ∀ H' p, Same H H' → H p = none → H' p = some (.lst (IL ((rowsOf ms ps st).map (·.at st)))) → Q (.ref p) H'
structure TxtG14 (mg : Str → Option Value) (fP : Addr) : Prop where
  zip : mg "zip" = none
  list : mg "list" = none
  sum : mg "sum" = none
  enum : mg "enumerate" = none
  gP : mg "_law_hd_piece" = some (.ref fP)
/-- the first i results are there -/
def part (rs : List Line) (st : List Int) (i : Nat) : List Int := (rs.take i).map (·.at st) ++ (rs.drop i).map (·.am)
theorem part_set {rs : List Line} {st : List Int} {i : Nat} {r : Line} (h : rs[i]? = some r) : (part rs st i).set i (r.at st) = part rs st (i + 1) := by
  have il := (List.getElem?_eq_some_iff.mp h).1
  have e := (List.getElem?_eq_some_iff.mp h).2
  unfold part
  have l1 : ((rs.take i).map (·.at st)).length = i := by rw [List.length_map, List.length_take]; omega
  rw [List.drop_eq_getElem_cons il, e, List.map_cons, List.set_append_right _ _ (by omega), l1, Nat.sub_self, List.set_cons_zero, List.take_add_one, h, List.map_append, List.append_assoc]
  rfl
theorem part_at {rs : List Line} {st : List Int} {i : Nat} {r : Line} (h : rs[i]? = some r) : (part rs st i)[i]? = some r.am := by
  have il := (List.getElem?_eq_some_iff.mp h).1
  have e := (List.getElem?_eq_some_iff.mp h).2
  unfold part
  have l1 : ((rs.take i).map (·.at st)).length = i := by rw [List.length_map, List.length_take]; omega
  rw [List.getElem?_append_right (by omega), l1, Nat.sub_self, List.drop_eq_getElem_cons il, e]
  rfl
theorem part_len (rs : List Line) (st : List Int) (i : Nat) : (part rs st i).length = rs.length := by
  unfold part
  rw [List.length_append, List.length_map, List.length_map, List.length_take, List.length_drop]
  omega
section
variable {P : Program} {w : World} {K : PySem.W.Frag} {mg : Str → Option Value} {base : Heap}
theorem scLAt : FnScope ["_law_form", "_law_state_here", "_law_matrix", "_law_more", "_law_found", "_law_rank", "_law_line", "_law_factor", "_law_amount"] ["_law_form", "_law_state_here"] (defScope sLAt) := ⟨rfl, rfl, rfl, by decide +kernel, rfl, by decide +kernel, by decide +kernel⟩
theorem ok_lat {f fP : Addr} {fd fdP : FuncData} (F : Fun K "_law_hd_at" "_law_hd_at" sLAt f fd) (T : TxtG14 mg fP)
    (GP : FnOk P w K mg base CX0 1 fP fdP ["_law_form", "_law_state_here"] (spLPiece K)) (kP : PySem.W.keepIn K (.ref fP) = true) (bP : Binds K fdP ["_law_form", "_law_state_here"] []) : FnOk P w K mg base CX0 2 f fd ["_law_form", "_law_state_here"] (spLAt K) := by
  have nd := scLAt.nd
  refine F.ok scLAt (fun vs H Q E h => ?_) (fun cdv A outer s H vs Q E hr h => ?_)
  · obtain ⟨_, _, _, _, _, rfl, _⟩ := h
    rfl
  · obtain ⟨v, b, ms, ps, st, rfl, hv, hb, pos, len, pl, few, few2, b2, ok, q⟩ := h
    refine ⟨_, pss_cons (ps_asg (pe_call GP hr rfl T.gP kP bP .nil pass0 (pa_cons (pv 0) (pa_cons (pv 1) pa_nil))) (pg_tup rfl (pgs_cons (pg_name (i := 2) nd rfl (Or.inl rfl)) (pgs_cons (pg_name (i := 3) nd rfl (Or.inl rfl)) pgs_nil))))
      (pss_cons (ps_set (i := 4) nd rfl (Or.inl rfl) (pe_callTy call_list_of (by rfl) T.list (by decide +kernel) (pa_cons (pv 3) pa_nil)))
      (pss_cons (ps_for PassesOwn.never rfl (pi_enum (by rfl) T.enum (pa_cons (pv 2) pa_nil)) (pg_tup rfl (pgs_cons (pg_name (i := 5) nd rfl (Or.inl rfl)) (pgs_cons (pg_name (i := 6) nd rfl (Or.inl rfl)) pgs_nil)))
        (pss_one (ps_asg (pe_op op_add (pe_ix ix_list (pv 4) (pv 5) (fun _ _ => rfl)) (pe_callB (cr_sum rfl) (by rfl) T.sum (by decide +kernel) (pa_cons (pe_lc (own := [("_law_factor", 7), ("_law_amount", 8)]) (g := gTup K 2 (gCons (gName 7) (gCons (gName 8) gNil))) rfl nd
            (pi_zip (by rfl) T.zip (pa_cons (pv 6) (pa_cons (pv 1) pa_nil)))
            (blkOk_by (N := ["_law_form", "_law_state_here", "_law_matrix", "_law_more", "_law_found", "_law_rank", "_law_line", "_law_factor", "_law_amount"]) (sc := defScope sLAt) (by decide +kernel)) (fun _ _ _ _ _ => pg_tup rfl (pgs_cons (pg_name (i := 7) nd rfl (Or.inl rfl)) (pgs_cons (pg_name (i := 8) nd rfl (Or.inl rfl)) pgs_nil))) (fun _ _ _ _ _ => pts_nil)
            (fun _ _ _ _ _ => pe_op op_mul (pv 7) (pv 8))) pa_nil))) (pg_sub (pv 4) (pv 5) set_list))))
      (pss_one (ps_ret (pv 4))))), ?_⟩
    have il : FM.plc ms (modI ms st) < ps.length := by
      rw [pl]
      exact FM.plc_lt (modI_rest pos len)
    have mem : rowsOf ms ps st ∈ ps := by
      unfold rowsOf
      rw [List.getD_eq_getElem?_getD, List.getElem?_eq_getElem il]
      exact List.getElem_mem il
    obtain ⟨o1, o2⟩ := ok _ mem
    refine ⟨_, rfl, _, rfl, v, b, ms, ps, st, rfl, hv, hb, pos, len, pl, few, fun H1 u sm hu => ?_⟩
    obtain ⟨t, m, n, xs, rfl, h1, h2, h3, h4⟩ := dp_piece hu
    generalize rowsOf ms ps st = rs at *
    refine ⟨t, _, rfl, h1, rfl, _, _, rfl, _, _, rfl, rfl, ?_⟩
    refine ⟨_, rfl, n, _, rfl, .inl h4, fun p hp => ?_⟩
    have z := same_new (o := .lst (IL (rs.map (·.am)))) hp
    have ep : upd H1 p (.lst (IL (rs.map (·.am)))) p = some (.lst (IL (rs.map (·.am)))) := upd_same
    have xl : xs.length = rs.length := by have := dpAll_len h3; rwa [List.length_map] at this
    generalize upd H1 p (.lst (IL (rs.map (·.am)))) = H2 at *
    refine ⟨_, rfl, m, xs, rfl, z.seq h2, ?_⟩
    refine for_it (walk_enum (K := K) (a := m) (xs := xs)) (fun i σ H' => (∀ b, b ≠ p → ∀ o, H2 b = some o → H' b = some o) ∧ H' p = some (.lst (IL (part rs st i))) ∧ ∃ x5 x6, σ = [some v, some (.ref b), some (.ref m), some (.ref n), some (.ref p), x5, x6, none, none])
      ⟨fun _ _ _ e => e, ep, _, _, rfl⟩ (fun i σ H' _ ⟨k, _⟩ => Same.seq (fun b o e => k b (ne_of_none e hp) o (z b o e)) h2) ?_ ?_
    · rintro i x σ H3 H3' hi ⟨k, hp3, x5, x6, rfl⟩ ⟨T', vx, vy, rfl, hT, rfl, hx, hy⟩
      have ex : vx = V.int (i : Nat) := (Option.some.inj hx).symm
      subst ex
      have hy' : xs[i]? = some vy := hy
      obtain ⟨d, hd1, hd2⟩ := dpAll_get h3 hy'
      rw [List.getElem?_map] at hd1
      obtain ⟨r, er, rfl⟩ := Option.map_eq_some_iff.mp hd1
      obtain ⟨ia, rfl, si⟩ := dp_ints hd2
      have ri := (List.getElem?_eq_some_iff.mp er).1
      obtain ⟨lo1, lo2⟩ := o2 r (List.mem_of_getElem? er)
      have sm3 : Same H1 H3 := fun b o e => k b (ne_of_none e hp) o (z b o e)
      have zT := same_new (o := .tup [V.int (i : Nat), V.ref ia]) hT
      have l1 : (IL r.is).length = r.is.length := List.length_map ..
      have l2 : (IL st).length = st.length := List.length_map ..
      have pl2 : (IL (part rs st i)).length = rs.length := by unfold IL; rw [List.length_map, part_len]
      have pa : (IL (part rs st i))[i]? = some (V.int r.am) := by
        unfold IL
        rw [List.getElem?_map, part_at er]
        rfl
      refine ⟨T', _, rfl, SqT.of upd_same, rfl, _, _, rfl, _, _, rfl, rfl, ?_⟩
      refine ⟨_, rfl, _, rfl, p, _, _, V.int r.am, rfl, rfl, SqL.of (zT _ _ hp3), atI_nat pa, _, rfl, _, rfl, ia, b, _, _, rfl, (sm3.trans zT).seq si, (sm.trans (sm3.trans zT)).seq hb, fun D hD => ?_⟩
      refine lc_it (walk_zip (K := K) (a := ia) (b := b) (xs := IL r.is) (ys := IL st) (n := st.length) (by omega)) (Made (upd H3 T' (.tup [V.int (i : Nat), V.ref ia])) D (fun _ => true) (fun j => V.int (r.is.getD j 0 * st.getD j 0))) (Made.start hD) (fun j H' _ M => ⟨((sm3.trans zT).trans M.same).seq si, ((sm.trans (sm3.trans zT)).trans M.same).seq hb⟩) ?_ ?_
      · rintro j x H4 H4' hj M ⟨T2, vx, vy, rfl, hT2, rfl, hx, hy⟩
        have hx' : (IL r.is)[j]? = some vx := hx
        have hy' : (IL st)[j]? = some vy := hy
        obtain rfl := map_at (d := 0) hx'
        obtain rfl := map_at (d := 0) hy'
        have c1 : (r.is.getD j 0).natAbs ≤ 10 ^ 9 := by
          rw [List.getD_eq_getElem?_getD, List.getElem?_eq_getElem (by omega : j < r.is.length)]
          exact lo2 _ (List.getElem_mem _)
        have c2 : (st.getD j 0).natAbs ≤ 10 ^ 9 := by
          rw [List.getD_eq_getElem?_getD, List.getElem?_eq_getElem hj]
          exact b2 _ (List.getElem_mem _)
        refine ⟨T2, _, rfl, SqT.of upd_same, rfl, _, _, rfl, _, _, rfl, rfl, rfl, _, rfl, _, rfl, _, _, rfl, rfl, .inl ⟨by omega, by omega⟩, ?_⟩
        exact M.yes hD (same_new hT2) rfl (by omega)
      · intro H4 M
        refine ⟨D, (List.range st.length).map fun j => r.is.getD j 0 * st.getD j 0, rfl, SqL.of ?_, ?_⟩
        · rw [M.at_, made_all, List.map_map]
          rfl
        · rw [← dot_range (show r.is.length = st.length by omega)]
          have kk := zT.trans M.same
          refine ⟨_, _, rfl, rfl, _, rfl, _, rfl, p, _, _, i, rfl, rfl, kk _ _ hp3, by rw [pl2]; exact ixN_nat ri, ?_⟩
          refine ⟨fun b hb o e => ?_, ?_, _, _, rfl⟩
          · rw [upd_ne hb]
            exact kk b o (k b hb o e)
          · rw [upd_same]
            refine congrArg (fun v => some (HO.lst v)) ?_
            rw [← part_set er]
            unfold IL
            rw [List.map_set]
            refine congrArg (fun v => (List.map V.int (part rs st i)).set i (V.int v)) ?_
            exact Int.add_comm _ _
    · rintro σ H3 ⟨k, hp3, x5, x6, rfl⟩
      refine ⟨_, rfl, ?_⟩
      have sm3 : Same H1 H3 := fun b o e => k b (ne_of_none e hp) o (z b o e)
      have e : part rs st xs.length = rs.map (·.at st) := by
        unfold part
        rw [xl, List.take_length, List.drop_length]
        simp
      rw [e] at hp3
      exact q H3 p (sm.trans sm3) (sm.free hp) hp3
end
end K09

set_option Elab.async false
set_option linter.all false
set_option maxRecDepth 100000
set_option maxHeartbeats 4000000
set_option exponentiation.threshold 5000
namespace FM
theorem tab_snoc {α : Type} : ∀ (ms : List Nat) (m : Nat) (F : List Nat → α), tab (ms ++ [m]) F = (tab ms fun r => r).flatMap fun r => (List.range m).map fun a => F (r ++ [a])
  | [], m, F => by
    show (List.range m).flatMap (fun a => [F [a]]) = ([[]] : List (List Nat)).flatMap _
    rw [List.flatMap_cons, List.flatMap_nil, List.append_nil]
    exact List.map_eq_flatMap.symm
  | x :: ms, m, F => by
    show (List.range x).flatMap (fun b => tab (ms ++ [m]) fun r => F (b :: r)) = ((List.range x).flatMap fun b => tab ms fun r => b :: r).flatMap _
    rw [List.flatMap_assoc]
    congr 1
    funext b
    rw [tab_snoc ms m, tab_map (fun r => b :: r) ms (fun r => r), List.flatMap_map]
    rfl
end FM
namespace K09
open PySem L2 DL PySem.HouseX CM
def natsD (r : List Nat) : PyData := .list ((r.map fun n : Nat => (n : Int)).map PyData.int)
def restsD (rs : List (List Nat)) : PyData := .list (rs.map natsD)
theorem own_nats {H : Hp} {v : V} {r : List Nat} {bs : List Addr} (h : Own H (natsD r) v bs) : ∃ a, v = .ref a ∧ H a = some (.lst (NL r)) := by
  obtain ⟨a, xs, cs, rfl, ha, ho, rfl⟩ := h
  obtain ⟨rfl, _⟩ := ints_own ho
  refine ⟨a, rfl, ?_⟩
  have e : IL (r.map fun m : Nat => (m : Int)) = NL r := by
    unfold IL NL
    rw [List.map_map]
    rfl
  rw [← e]
  exact ha
theorem nats_own {H : Hp} {p : Addr} {r : List Nat} (h : H p = some (.lst (NL r))) : Own H (natsD r) (.ref p) [p] := by
  have e : IL (r.map fun m : Nat => (m : Int)) = NL r := by
    unfold IL NL
    rw [List.map_map]
    rfl
  exact ⟨p, _, [], rfl, h, by rw [← e]; exact own_ints _, rfl⟩
theorem ownAll_app {H : Hp} : ∀ {ds es : List PyData} {xs ys : List V} {cs bs : List Addr}, OwnAll H ds xs cs → OwnAll H es ys bs → OwnAll H (ds ++ es) (xs ++ ys) (cs ++ bs)
  | [], _, _, _, _, _, ⟨rfl, rfl⟩, h => h
  | d :: ds, _, _, _, _, _, ⟨v, vs, b1, c1, rfl, h1, h2, rfl⟩, h => ⟨v, _, b1, _, rfl, h1, ownAll_app h2 h, by rw [List.append_assoc]⟩
def allRests (ms : List Nat) : List (List Nat) := FM.tab ms fun r => r
theorem rest_of {ms r : List Nat} (h : r ∈ allRests ms) : FM.Rest ms r := by
  obtain ⟨i, hi, e⟩ := List.mem_iff_getElem.mp h
  have iv : i < FM.vol ms := by
    have : (allRests ms).length = FM.vol ms := FM.tab_len _ _
    omega
  obtain ⟨r', hr, rfl⟩ := FM.plc_sur iv
  have z := FM.tab_at (F := fun r => r) hr
  have z2 : (allRests ms)[FM.plc ms r']? = some r := by rw [List.getElem?_eq_getElem hi, e]
  have z3 : some r' = some r := z.symm.trans z2
  rw [← Option.some.inj z3]
  exact hr
def spLRests (K : PySem.W.Frag) : Sp := fun vs H Q _ => ∃ (a : Addr) (ms : List Nat), vs = [.ref a] ∧ SqL K H a (NL ms) ∧ (∀ m ∈ ms, 0 < m) ∧ FM.vol ms < 100000 ∧ ms.length ≤ 100 ∧ ∀ H' p xs cs, Same H H' → H' p = some (.lst xs) → OwnAll H' ((allRests ms).map natsD) xs cs → New H (p :: cs) → Q (.ref p) H'
section
variable {P : Program} {w : World} {K : PySem.W.Frag} {mg : Str → Option Value} {base : Heap}
theorem scLRests : FnScope ["_law_moduli", "_law_found", "_law_modulus_here", "_law_longer", "_law_rests_here", "_law_rest"] ["_law_moduli"] (defScope sLRests) := ⟨rfl, rfl, rfl, by decide +kernel, rfl, by decide +kernel, by decide +kernel⟩
theorem ok_lrests {f : Addr} {fd : FuncData} (F : Fun K "_law_hd_rests" "_law_hd_rests" sLRests f fd) (range : mg "range" = none) : FnOk P w K mg base CX0 1 f fd ["_law_moduli"] (spLRests K) := by
  have nd := scLRests.nd
  refine F.ok scLRests (fun vs H Q E h => ?_) (fun cdv A outer s H vs Q E hr h => ?_)
  · obtain ⟨_, _, rfl, _⟩ := h
    rfl
  · obtain ⟨a, ms, rfl, ha, pos, few, mfew, q⟩ := h
    refine ⟨_, pss_cons (ps_set (i := 1) nd rfl (Or.inl rfl) (pe_lst (pa_cons (pe_lst pa_nil) pa_nil)))
      (pss_cons (ps_for PassesOwn.never rfl (pi_list (pv 0)) (pg_name (i := 2) nd rfl (Or.inl rfl))
        (pss_cons (ps_set (i := 3) nd rfl (Or.inl rfl) (pe_lst pa_nil))
        (pss_cons (ps_for PassesOwn.never rfl (pi_list (pv 1)) (pg_name (i := 4) nd rfl (Or.inr rfl))
          (pss_one (ps_set (i := 3) nd rfl (Or.inl rfl) (pe_op op_cat (pv 3) (pe_lc (own := [("_law_rest", 5)]) (g := gName 5) rfl nd (pi_range1 (by rfl) range (pa_cons (pv 2) pa_nil))
            (blkOk_by (N := ["_law_moduli", "_law_found", "_law_modulus_here", "_law_longer", "_law_rests_here", "_law_rest"]) (sc := defScope sLRests) (by decide +kernel)) (fun _ _ _ _ _ => pg_name (i := 5) nd rfl (Or.inl rfl)) (fun _ _ _ _ _ => pts_nil)
            (fun _ _ _ _ _ => pe_op (show OpR _ _ rCat from op_cat) (pv 4) (pe_lst (pa_cons (pv 5) pa_nil))))))))
        (pss_one (ps_set (i := 1) nd rfl (Or.inl rfl) (pv 3))))))
      (pss_one (ps_ret (pv 1)))), ?_⟩
    refine ⟨Nat.zero_le _, fun e0 he0 => ⟨(by show 1 ≤ sizeLine; decide), fun f0 hf0 => ?_⟩⟩
    have z1 := same_new (o := .lst []) he0
    have z2 := same_new (o := .lst [V.ref e0]) hf0
    have sz : (1000000 : Nat) ≤ sizeLine := by decide
    refine ⟨_, rfl, a, rfl, ⟨_, (z1.trans z2).seq ha⟩, ?_⟩
    refine for_list (K := K) (a := a) (xs := NL ms) (fun i σ H' => Same H H' ∧ ∃ (fl : Addr) (xs : List V) (cs : List Addr) (x2 x3 x4 : Option V), σ = [some (.ref a), some (.ref fl), x2, x3, x4, none] ∧ H' fl = some (.lst xs) ∧ OwnAll H' ((allRests (ms.take i)).map natsD) xs cs ∧ New H (fl :: cs))
      ⟨z1.trans z2, f0, _, _, none, none, none, rfl, upd_same, ⟨_, [], [e0], [], rfl, nats_own (z2 _ _ upd_same), ⟨rfl, rfl⟩, rfl⟩, fun b hb => by
        rcases List.mem_cons.mp hb with e | e
        · rw [e]; exact z1.free hf0
        · rw [List.mem_singleton.mp e]; exact he0⟩ (fun i σ H' _ ⟨k, _⟩ => k.seq ha) ?_ ?_
    · rintro i x σ H1 hx ⟨sm, fl, xs, cs, x2, x3, x4, rfl, hfl, own, new⟩
      have hil := map_lt hx
      obtain rfl := map_at (d := 0) hx
      obtain ⟨m, hm⟩ : ∃ m, m = ms.getD i 0 := ⟨_, rfl⟩
      have em : ms[i]? = some m := by rw [hm, List.getD_eq_getElem?_getD, List.getElem?_eq_getElem hil]; rfl
      rw [← hm]
      have m0 : 0 < m := pos m (List.mem_of_getElem? em)
      have v1 := vol_take pos (i + 1)
      rw [vol_snoc hil, ← hm] at v1
      have al : (allRests (ms.take i)).length = FM.vol (ms.take i) := FM.tab_len _ _
      have xl : xs.length = FM.vol (ms.take i) := by
        have := own.len
        rw [List.length_map, al] at this
        exact this
      have ml : m ≤ FM.vol (ms.take i) * m := Nat.le_mul_of_pos_left _ (FM.vol_pos fun y hy => pos y (List.mem_of_mem_take hy))
      refine ⟨Nat.zero_le _, fun l0 hl0 => ?_⟩
      have z3 := same_new (o := .lst []) hl0
      refine ⟨_, rfl, fl, rfl, ⟨_, SqL.of (z3 _ _ hfl)⟩, ?_⟩
      refine for_list (K := K) (a := fl) (xs := xs) (fun j σ H' => Same H1 H' ∧ ∃ (ll : Addr) (ys : List V) (bs : List Addr) (x4 : Option V), σ = [some (.ref a), some (.ref fl), some (.int (m : Int)), some (.ref ll), x4, none] ∧ H' ll = some (.lst ys) ∧ ys.length = j * m ∧ OwnAll H' (((allRests (ms.take i)).take j).flatMap fun r => (List.range m).map fun y => natsD (r ++ [y])) ys bs ∧ New H1 (ll :: bs))
        ⟨z3, l0, [], [], x4, rfl, upd_same, by simp, by rw [List.take_zero]; exact ⟨rfl, rfl⟩, fun b hb => by rw [List.mem_singleton.mp hb]; exact hl0⟩ (fun j σ H' _ ⟨k, _⟩ => SqL.of (k _ _ hfl)) ?_ ?_
      · rintro j x σ H2 hx ⟨sm2, ll, ys, bs, x4, rfl, hll, yl, own2, new2⟩
        have hjl := (List.getElem?_eq_some_iff.mp hx).1
        obtain ⟨d, b1, hd1, hd2, _⟩ := (own.same sm2).at hx
        rw [List.getElem?_map] at hd1
        obtain ⟨r, er, rfl⟩ := Option.map_eq_some_iff.mp hd1
        obtain ⟨ra, rfl, hra⟩ := own_nats hd2
        have rl : r.length ≤ 100 := by
          have := FM.rest_len (rest_of (List.mem_of_getElem? er))
          rw [List.length_take] at this
          omega
        have nr : (NL r).length = r.length := List.length_map ..
        have jm : (j + 1) * m ≤ FM.vol (ms.take i) * m := Nat.mul_le_mul_right _ (by omega)
        rw [Nat.succ_mul] at jm
        refine ⟨_, rfl, _, rfl, m, rfl, by omega, by omega, fun D hD => ?_⟩
        refine lc_it (walk_range (lo := 0) (n := m)) (fun k H' => ∃ vs cs, Filling H2 H' D ((List.range k).map fun y => natsD (r ++ [y])) vs cs ∧ vs.length = k) ⟨_, _, Filling.start hD, rfl⟩ (fun _ _ _ _ => trivial) ?_ ?_
        · rintro k x H3 H3' hk ⟨vs, cs3, Fl, hvl⟩ ⟨rfl, rfl⟩
          refine ⟨rfl, _, rfl, _, rfl, (by show 1 ≤ sizeLine; decide), fun c hc => ?_⟩
          have zc := same_new (o := .lst [V.int (0 + ((k : Nat) : Int))]) hc
          refine ⟨ra, c, NL r, _, rfl, rfl, zc _ _ (Fl.same _ _ hra), upd_same, (by show (NL r).length + 1 ≤ sizeLine; omega), fun p hp => ?_⟩
          have zp := same_new (o := .lst (NL r ++ [V.int (0 + ((k : Nat) : Int))])) hp
          refine ⟨vs, (zc.trans zp) _ _ Fl.at_, Nat.lt_of_lt_of_le (show vs.length < 1000000 by omega) sz, vs ++ [.ref p], cs3 ++ [p], ?_, by rw [List.length_append, hvl]; rfl⟩
          rw [List.range_succ, List.map_append]
          refine Fl.more hD (zc.trans zp) (nats_own ?_) (fun b hb => by rw [List.mem_singleton.mp hb]; exact zc.free hp) (by simp)
          rw [upd_same]
          unfold NL
          rw [List.map_append]
          exact congrArg (fun z : Int => some (HO.lst (r.map (fun n : Nat => V.int n) ++ [V.int z]))) (Int.zero_add _)
        · rintro H3 ⟨vs, cs3, Fl, hvl⟩
          refine ⟨ll, D, ys, vs, rfl, rfl, Fl.same _ _ hll, Fl.at_, by omega, fun p hp => ?_⟩
          have zp := same_new (o := .lst (ys ++ vs)) hp
          have nw : New H1 (p :: (bs ++ cs3)) := fun b hb => by
            rcases List.mem_cons.mp hb with e | e
            · rw [e]; exact (sm2.trans Fl.same).free hp
            · rcases List.mem_append.mp e with e | e
              · exact new2 b (List.mem_cons_of_mem _ e)
              · exact sm2.free (Fl.new b e)
          refine ⟨sm2.trans (Fl.same.trans zp), p, ys ++ vs, bs ++ cs3, _, rfl, upd_same, by rw [List.length_append, yl, hvl, Nat.succ_mul], ?_, nw⟩
          rw [List.take_add_one, er, List.flatMap_append]
          refine ownAll_app ((own2.same (Fl.same.trans zp))) ?_
          have e : [r].flatMap (fun r => (List.range m).map fun y => natsD (r ++ [y])) = (List.range m).map fun y => natsD (r ++ [y]) := by simp
          show OwnAll _ ([r].flatMap _) _ _
          rw [e]
          exact Fl.own.same zp
      · rintro σ H2 ⟨sm2, ll, ys, bs, x4, rfl, hll, yl, own2, new2⟩
        refine ⟨_, rfl, sm.trans sm2, ll, ys, bs, _, _, _, rfl, hll, ?_, fun b hb => sm.free (new2 b hb)⟩
        have e : (allRests (ms.take (i + 1))).map natsD = ((allRests (ms.take i)).take xs.length).flatMap fun r => (List.range m).map fun y => natsD (r ++ [y]) := by
          rw [xl, ← al, List.take_length]
          unfold allRests
          rw [List.take_add_one, em]
          show (FM.tab (ms.take i ++ [m]) fun r => r).map natsD = _
          rw [FM.tab_snoc, List.map_flatMap]
          congr 1
          funext r
          rw [List.map_map]
          rfl
        rw [e]
        exact own2
    · rintro σ H1 ⟨sm, fl, xs, cs, x2, x3, x4, rfl, hfl, own, new⟩
      refine ⟨_, rfl, ?_⟩
      have l : (NL ms).length = ms.length := List.length_map ..
      rw [l, List.take_length] at own
      exact q H1 fl xs cs sm hfl own new
end
end K09

set_option Elab.async false
set_option linter.all false
set_option maxRecDepth 100000
set_option maxHeartbeats 4000000
set_option exponentiation.threshold 5000
namespace K09
open PySem L2 DL PySem.HouseX CM
theorem if_neg_of {c : Prop} [Decidable c] {X Y : Prop} (h : ¬ c) (y : Y) : if c then X else Y := by
  rw [if_neg h]
  exact y
def spAccIn (K : PySem.W.Frag) : Sp := fun vs H Q _ => ∃ (v : V) (ms : List Nat) (ps : List (List Line)), vs = [v] ∧ Dp K H v (formD ms ps) ∧ Q (.int (ms.length : Nat)) H
def spResIn (K : PySem.W.Frag) : Sp := fun vs H Q _ => ∃ (v : V) (ms : List Nat) (rs : List Line) (ps : List (List Line)), vs = [v] ∧ Dp K H v (formD ms (rs :: ps)) ∧ Q (.int (rs.length : Nat)) H
section
variable {P : Program} {w : World} {K : PySem.W.Frag} {mg : Str → Option Value} {base : Heap}
theorem scAccIn : FnScope ["form"] ["form"] (defScope sAccIn) := ⟨rfl, rfl, rfl, by decide +kernel, rfl, by decide +kernel, by decide +kernel⟩
theorem ok_accin {f : Addr} {fd : FuncData} (F : Fun K "accounts_in_form" "accounts_in_form" sAccIn f fd) (len : mg "len" = none) : FnOk P w K mg base CX0 1 f fd ["form"] (spAccIn K) := by
  have nd := scAccIn.nd
  refine F.ok scAccIn (fun vs H Q E h => ?_) (fun cdv A outer s H vs Q E hr h => ?_)
  · obtain ⟨_, _, _, rfl, _⟩ := h
    rfl
  · obtain ⟨v, ms, ps, rfl, hv, q⟩ := h
    refine ⟨_, pss_one (ps_ret (pe_ifExp (pt_cmpR op_gt (pe_callB call_len_seq (by rfl) len PySem.boot_len (pa_cons (pv 0) pa_nil)) pe_int (nomark _)) (pe_callB call_len_seq (by rfl) len PySem.boot_len (pa_cons (pe_ix ix_tup (pv 0) pe_int (fun _ _ => rfl)) pa_nil)) pe_int)), ?_⟩
    obtain ⟨t, a, b, xs, rfl, h1, h2, h3, h4⟩ := dp_form hv
    refine ⟨_, rfl, t, _, rfl, .inr h1, _, _, rfl, rfl, _, rfl, iteT ?_⟩
    refine ⟨_, rfl, t, _, _, .ref a, rfl, rfl, h1, rfl, a, _, rfl, .inl h2, ?_⟩
    have l1 : (NL ms).length = ms.length := List.length_map ..
    rw [l1]
    exact q
theorem scResIn : FnScope ["form"] ["form"] (defScope sResIn) := ⟨rfl, rfl, rfl, by decide +kernel, rfl, by decide +kernel, by decide +kernel⟩
theorem ok_resin {f : Addr} {fd : FuncData} (F : Fun K "results_in_form" "results_in_form" sResIn f fd) (len : mg "len" = none) : FnOk P w K mg base CX0 1 f fd ["form"] (spResIn K) := by
  have nd := scResIn.nd
  refine F.ok scResIn (fun vs H Q E h => ?_) (fun cdv A outer s H vs Q E hr h => ?_)
  · obtain ⟨_, _, _, _, rfl, _⟩ := h
    rfl
  · obtain ⟨v, ms, rs, ps, rfl, hv, q⟩ := h
    refine ⟨_, pss_cons (ps_if (PW.pt (pw_or (pt_cmpR op_ne (pe_callB call_len_seq (by rfl) len PySem.boot_len (pa_cons (pv 0) pa_nil)) pe_int (nomark _))
        (pw_or (pt_cmpR op_eq (pe_callB call_len_seq (by rfl) len PySem.boot_len (pa_cons (pe_ix ix_tup (pv 0) pe_int (fun _ _ => rfl)) pa_nil)) pe_int (nomark _))
        (pw_or1 (pt_cmpR op_eq (pe_callB call_len_seq (by rfl) len PySem.boot_len (pa_cons (pe_ix ix_list (pe_ix ix_tup (pv 0) pe_int (fun _ _ => rfl)) pe_int (fun _ _ => rfl)) pa_nil)) pe_int (nomark _)))))) (pss_one (ps_ret pe_int)) pss_nil)
      (pss_one (ps_ret (pe_callB call_len_seq (by rfl) len PySem.boot_len (pa_cons (pe_ix ix_tup (pe_ix ix_list (pe_ix ix_tup (pv 0) pe_int (fun _ _ => rfl)) pe_int (fun _ _ => rfl)) pe_int (fun _ _ => rfl)) pa_nil)))), ?_⟩
    obtain ⟨t, a, b, xs, rfl, h1, h2, h3, h4⟩ := dp_form hv
    cases h4 with
    | @cons x xs d ds hd ht =>
      obtain ⟨t2, m, n, ys, rfl, g1, g2, g3, g4⟩ := dp_piece hd
      have yl : ys.length = rs.length := by have := dpAll_len g3; rwa [List.length_map] at this
      refine ⟨_, rfl, t, _, rfl, .inr h1, rfl, _, rfl, ?_⟩
      refine ⟨_, rfl, t, _, _, .ref b, rfl, rfl, h1, rfl, b, _, rfl, .inl h3, rfl, _, rfl, ?_⟩
      refine if_neg_of (fun z => ?_) ?_
      · have e := V.int.inj (of_decide_eq_true z)
        rw [List.length_cons] at e
        omega
      refine ⟨_, rfl, t, _, _, .ref b, rfl, rfl, h1, rfl, b, _, _, .ref t2, rfl, rfl, h3, atI_nat (j := 0) rfl, t2, _, rfl, .inr g1, rfl, _, rfl, iteF ?_⟩
      refine ⟨_, rfl, t, _, _, .ref b, rfl, rfl, h1, rfl, b, _, _, .ref t2, rfl, rfl, h3, atI_nat (j := 0) rfl, t2, _, _, .ref m, rfl, rfl, g1, rfl, m, _, rfl, .inl g2, ?_⟩
      rw [yl]
      exact q
end
end K09

set_option Elab.async false
set_option linter.all false
set_option maxRecDepth 100000
set_option maxHeartbeats 4000000
set_option exponentiation.threshold 5000
namespace K09
open PySem L2 DL PySem.HouseX CM
theorem nl_il (ms : List Nat) : IL (ms.map fun m : Nat => (m : Int)) = NL ms := by
  unfold IL NL
  rw [List.map_map]
  rfl
/-- a form of its own in the heap -/
theorem own_form {H : Hp} {v : V} {as : List Addr} {ms : List Nat} {ps : List (List Line)} (h : Own H (formD ms ps) v as) : ∃ t a b xs cs, v = .ref t ∧ H t = some (.tup [.ref a, .ref b]) ∧ H a = some (.lst (NL ms)) ∧ H b = some (.lst xs) ∧ OwnAll H (ps.map pieceD) xs cs ∧ ∀ z ∈ cs, z ∈ as := by
  obtain ⟨t, us, bs, rfl, ht, ⟨v1, us1, b1, c1, rfl, ⟨a, ys, d1, rfl, ha, oa, rfl⟩, ⟨v2, us2, b2, c2, rfl, ⟨b, xs, cs, rfl, hb, ob, rfl⟩, ⟨rfl, rfl⟩, rfl⟩, rfl⟩, rfl⟩ := h
  obtain ⟨rfl, rfl⟩ := ints_own oa
  rw [nl_il] at ha
  exact ⟨t, a, b, xs, cs, rfl, ht, ha, hb, ob, fun z hz => by simp [hz]⟩
theorem form_own {H : Hp} {t a b : Addr} {xs : List V} {cs : List Addr} {ms : List Nat} {ps : List (List Line)} (ht : H t = some (.tup [.ref a, .ref b])) (ha : H a = some (.lst (NL ms))) (hb : H b = some (.lst xs)) (o : OwnAll H (ps.map pieceD) xs cs) : Own H (formD ms ps) (.ref t) (t :: ([a] ++ ((b :: cs) ++ []))) :=
  ⟨t, _, _, rfl, ht, ⟨_, _, [a], _, rfl, ⟨a, _, [], rfl, ha, by rw [← nl_il]; exact own_ints _, rfl⟩, ⟨_, _, b :: cs, [], rfl, ⟨b, xs, cs, rfl, hb, o, rfl⟩, ⟨rfl, rfl⟩, rfl⟩, rfl⟩, rfl⟩
def spLPieceO (K : PySem.W.Frag) : Sp := fun vs H Q _ => ∃ (v : V) (b : Addr) (as : List Addr) (ms : List Nat) (ps : List (List Line)) (st : List Int), vs = [v, .ref b] ∧ Own H (formD ms ps) v as ∧ SqL K H b (IL st) ∧ (∀ m ∈ ms, 0 < m) ∧ st.length = ms.length ∧ ps.length = FM.vol ms ∧ FM.vol ms < 1000000 ∧
  ∀ H' u bs, Same H H' → Own H' (pieceD (rowsOf ms ps st)) u bs → (∀ z ∈ bs, z ∈ as) → Q u H'
section
variable {P : Program} {w : World} {K : PySem.W.Frag} {mg : Str → Option Value} {base : Heap}
theorem scLPieceO : FnScope ["_law_form", "_law_state_here", "_law_spot", "_law_amount", "_law_modulus_here"] ["_law_form", "_law_state_here"] (defScope sLPiece) := ⟨rfl, rfl, rfl, by decide +kernel, rfl, by decide +kernel, by decide +kernel⟩
theorem ok_lpieceO {f : Addr} {fd : FuncData} (F : Fun K "_law_hd_piece" "_law_hd_piece" sLPiece f fd) (T : TxtG13 mg) : FnOk P w K mg base CX0 1 f fd ["_law_form", "_law_state_here"] (spLPieceO K) := by
  have nd := scLPieceO.nd
  refine F.ok scLPieceO (fun vs H Q E h => ?_) (fun cdv A outer s H vs Q E hr h => ?_)
  · obtain ⟨_, _, _, _, _, _, rfl, _⟩ := h
    rfl
  · obtain ⟨v, b, as, ms, ps, st, rfl, hv, hb, pos, len, pl, few, q⟩ := h
    refine ⟨_, pss_cons (ps_set (i := 2) nd rfl (Or.inl rfl) pe_int) (pss_cons (ps_for PassesOwn.never rfl (pi_zip (by rfl) T.zip (pa_cons (pv 1) (pa_cons (pe_ix ix_tup (pv 0) pe_int (fun _ _ => rfl)) pa_nil))) (pg_tup rfl (pgs_cons (pg_name (i := 3) nd rfl (Or.inl rfl)) (pgs_cons (pg_name (i := 4) nd rfl (Or.inl rfl)) pgs_nil)))
      (pss_one (ps_set (i := 2) nd rfl (Or.inl rfl) (pe_op op_add (pe_op op_mul (pv 2) (pv 4)) (pe_op op_modN (pe_callTy call_int1 (by rfl) T.int (by decide +kernel) (pa_cons (pv 3) pa_nil)) (pv 4))))))
      (pss_one (ps_ret (pe_ix ix_list (pe_ix ix_tup (pv 0) pe_int (fun _ _ => rfl)) (pv 2) (fun _ _ => rfl))))), ?_⟩
    obtain ⟨t, a, c, xs, cs, rfl, h1', ha', h3', h4, sub⟩ := own_form hv
    have h1 : SqT K H t [.ref a, .ref c] := SqT.of h1'
    have ha : SqL K H a (NL ms) := SqL.of ha'
    have h3 : SqL K H c xs := SqL.of h3'
    have l1 : (NL ms).length = ms.length := List.length_map ..
    have l2 : (IL st).length = st.length := List.length_map ..
    refine ⟨_, rfl, _, rfl, t, _, _, .ref a, rfl, rfl, h1, rfl, b, a, IL st, NL ms, rfl, hb, ha, ?_⟩
    refine for_it (walk_zip (K := K) (a := b) (b := a) (xs := IL st) (ys := NL ms) (n := ms.length) (by omega)) (fun i σ H' => Same H H' ∧ ∃ (acc : Nat) (x3 x4 : Option V), σ = [some (.ref t), some (.ref b), some (.int ((acc : Nat) : Int)), x3, x4] ∧ hor acc (ms.drop i) (st.drop i) = hor 0 ms st ∧ acc < FM.vol (ms.take i))
      ⟨Same.refl _, 0, _, _, rfl, rfl, by simp [FM.vol]⟩ (fun i σ H' _ ⟨k, _⟩ => ⟨k.seq hb, k.seq ha⟩) ?_ ?_
    · rintro i x σ H1 H1' hi ⟨sm, acc, x3, x4, rfl, hor', hacc⟩ ⟨T', vx, vy, rfl, hT, rfl, hx, hy⟩
      have hx' : (IL st)[i]? = some vx := hx
      have hy' : (NL ms)[i]? = some vy := hy
      obtain rfl := map_at (d := 0) hx'
      obtain rfl := map_at (d := 0) hy'
      obtain ⟨m, hm⟩ : ∃ m, m = ms.getD i 0 := ⟨_, rfl⟩
      obtain ⟨y, hyy⟩ : ∃ y, y = st.getD i 0 := ⟨_, rfl⟩
      have em : ms[i]? = some m := by rw [hm, List.getD_eq_getElem?_getD, List.getElem?_eq_getElem hi]; rfl
      have ey : st[i]? = some y := by rw [hyy, List.getD_eq_getElem?_getD, List.getElem?_eq_getElem (by omega)]; rfl
      rw [← hm, ← hyy]
      have m0 : 0 < m := pos m (List.mem_of_getElem? em)
      have v1 := vol_take pos (i + 1)
      have v9 := vol_take pos i
      rw [vol_snoc hi, ← hm] at v1
      have q1 : (acc + 1) * m ≤ FM.vol (ms.take i) * m := Nat.mul_le_mul_right _ hacc
      rw [Nat.succ_mul] at q1
      have vp : 0 < FM.vol (ms.take i) := by omega
      have mm : m ≤ FM.vol (ms.take i) * m := Nat.le_mul_of_pos_left _ vp
      have z1 := Int.emod_nonneg y (show (m : Int) ≠ 0 by omega)
      have z2 := Int.emod_lt_of_pos y (show (0 : Int) < m by omega)
      have fe : y.fmod (m : Int) = y % (m : Int) := Int.fmod_eq_emod_of_nonneg _ (by omega)
      refine ⟨T', _, rfl, SqT.of upd_same, rfl, _, _, rfl, _, _, rfl, rfl, ?_⟩
      refine ⟨_, rfl, _, rfl, _, _, rfl, rfl, .inl ⟨by omega, by omega⟩, _, rfl, .inl ⟨_, rfl, ?_⟩⟩
      refine ⟨_, rfl, _, _, rfl, rfl, by omega, _, _, rfl, rfl, ?_⟩
      refine ⟨sm.trans (same_new hT), acc * m + (y % (m : Int)).toNat, some (.int y), some (.int (m : Int)), ?_, ?_, ?_⟩
      · refine congrArg (fun v => [some (V.ref t), some (V.ref b), some (V.int v), some (V.int y), some (V.int (m : Int))]) ?_
        rw [fe, Int.natCast_add, Int.natCast_mul, Int.toNat_of_nonneg z1]
      · rw [← hor', hor_drop em ey, Int.natCast_add, Int.natCast_mul, Int.toNat_of_nonneg z1]
      · rw [vol_snoc hi, ← hm]
        omega
    · rintro σ H1 ⟨sm, acc, x3, x4, rfl, hor', hacc⟩
      have e := hor_eq (ms := ms) (st := st) (acc := 0) pos len
      rw [← hor', List.drop_length, Int.zero_mul, Int.zero_add] at e
      have e2 : (acc : Int) = ((FM.plc ms (modI ms st) : Nat) : Int) := by
        rw [← e, List.drop_of_length_le (by omega)]
        rfl
      have il : FM.plc ms (modI ms st) < ps.length := by
        rw [pl]
        exact FM.plc_lt (modI_rest pos len)
      have xl : xs.length = ps.length := by have := h4.len; rwa [List.length_map] at this
      have ex : xs[FM.plc ms (modI ms st)]? = some (xs[FM.plc ms (modI ms st)]'(by omega)) := List.getElem?_eq_getElem (by omega)
      obtain ⟨d, bs, hd1, hd2, sb⟩ := (h4.same sm).at ex
      rw [List.getElem?_map, List.getElem?_eq_getElem il] at hd1
      have ed : d = pieceD (rowsOf ms ps st) := by
        unfold rowsOf
        rw [List.getD_eq_getElem?_getD, List.getElem?_eq_getElem il]
        exact (Option.some.inj hd1).symm
      rw [ed] at hd2
      exact ⟨_, rfl, t, _, _, .ref c, rfl, rfl, sqT_same sm h1, rfl, _, rfl, c, xs, _, _, rfl, rfl, sm.seq h3, by rw [e2]; exact atI_nat ex, q H1 _ bs sm hd2 (fun z hz => sub z (sb z hz))⟩
end
end K09

set_option Elab.async false
set_option linter.all false
set_option maxRecDepth 100000
set_option maxHeartbeats 4000000
set_option exponentiation.threshold 5000
namespace K09
open PySem L2 DL PySem.HouseX CM
theorem ne_of_none' {H : Hp} {a p : Addr} {o : HO} (h : H a = some o) (hp : H p = none) : p ≠ a := fun z => by
  rw [z, h] at hp
  cases hp
theorem modI_nat : ∀ {ms r : List Nat}, modI ms (r.map fun n : Nat => (n : Int)) = FM.modl ms r
  | [], [] => rfl
  | [], _ :: _ => rfl
  | _ :: _, [] => rfl
  | m :: ms, a :: r => by
    show ((a : Int) % (m : Int)).toNat :: modI ms (r.map _) = a % m :: FM.modl ms r
    rw [modI_nat]
    congr 1
theorem nodesAll_le {ds : List PyData} {n : Nat} (h : ∀ d ∈ ds, nodes d ≤ n) : nodesAll ds ≤ ds.length * n := by
  induction ds with
  | nil => simp [nodesAll]
  | cons d ds ih =>
    have h1 := h d List.mem_cons_self
    have h2 := ih fun x hx => h x (List.mem_cons_of_mem _ hx)
    simp only [nodesAll, List.length_cons, Nat.succ_mul]
    omega
theorem ints_nodes2 (ns : List Int) : nodesAll (ns.map PyData.int) ≤ ns.length := by
  have := nodesAll_le (ds := ns.map PyData.int) (n := 1) fun d hd => by
    obtain ⟨x, _, rfl⟩ := List.mem_map.mp hd
    simp [nodes]
  rw [List.length_map] at this
  omega
theorem piece_nodes {rs : List Line} (h : PieceOk rs) : nodes (pieceD rs) ≤ 1000000 := by
  obtain ⟨h1, h2⟩ := h
  have a := nodesAll_le (ds := rs.map fun r => PyData.list (r.is.map PyData.int)) (n := 101) fun d hd => by
    obtain ⟨r, hr, rfl⟩ := List.mem_map.mp hd
    have := ints_nodes2 r.is
    have := (h2 r hr).2
    simp only [nodes]
    omega
  rw [List.length_map] at a
  have b := ints_nodes2 (rs.map (·.am))
  rw [List.length_map] at b
  simp only [pieceD, matD, nodes, nodesAll]
  omega
theorem piece_depth (rs : List Line) : (pieceD rs).depth ≤ 3 := by
  have h : PyData.depthAll (rs.map fun r => PyData.list (r.is.map PyData.int)) ≤ 1 := depthAll_le.mpr fun d hd => by
    obtain ⟨r, _, rfl⟩ := List.mem_map.mp hd
    have := (lay_il r.is).2
    simp only [PyData.depth]
    omega
  have g := (lay_il (rs.map (·.am))).2
  simp only [pieceD, matD, PyData.depth, PyData.depthAll]
  omega
def spToldW (K : PySem.W.Frag) : Sp := fun vs H Q _ => ∃ (v : V) (b : Addr) (as : List Addr) (ms ns : List Nat) (ps : List (List Line)), vs = [v, .ref b] ∧ Own H (formD ms ps) v as ∧ SqL K H b (NL ns) ∧ (∀ m ∈ ms, 0 < m) ∧ (∀ m ∈ ns, 0 < m) ∧ ns.length = ms.length ∧ ms.length ≤ 100 ∧ ps.length = FM.vol ms ∧ FM.vol ms < 100000 ∧ FM.vol ns < 100000 ∧ (∀ rs ∈ ps, PieceOk rs) ∧
  ∀ H' u bs, Same H H' → Own H' (formD ns (FM.tab ns (formF ms ps))) u bs → New H bs → bs.Nodup → Q u H'
structure TxtG18 (mg : Str → Option Value) (fC fP fR : Addr) : Prop where
  list : mg "list" = none
  gC : mg "_law_hd_copy" = some (.ref fC)
  gP : mg "_law_hd_piece" = some (.ref fP)
  gR : mg "_law_hd_rests" = some (.ref fR)
section
variable {P : Program} {w : World} {K : PySem.W.Frag} {mg : Str → Option Value} {base : Heap}
theorem scLToldW : FnScope ["_law_form", "_law_moduli", "_law_rests_here"] ["_law_form", "_law_moduli"] (defScope sLToldW) := ⟨rfl, rfl, rfl, by decide +kernel, rfl, by decide +kernel, by decide +kernel⟩
theorem ok_ltoldw {f fC fP fR : Addr} {fd fdC fdP fdR : FuncData} (F : Fun K "_law_hd_told_with" "_law_hd_told_with" sLToldW f fd) (T : TxtG18 mg fC fP fR)
    (GC : FnOk P w K mg base CX0 4 fC fdC ["_law_thing"] (spCopy 3)) (kC : PySem.W.keepIn K (.ref fC) = true) (bC : Binds K fdC ["_law_thing"] [])
    (GP : FnOk P w K mg base CX0 1 fP fdP ["_law_form", "_law_state_here"] (spLPieceO K)) (kP : PySem.W.keepIn K (.ref fP) = true) (bP : Binds K fdP ["_law_form", "_law_state_here"] [])
    (GR : FnOk P w K mg base CX0 1 fR fdR ["_law_moduli"] (spLRests K)) (kR : PySem.W.keepIn K (.ref fR) = true) (bR : Binds K fdR ["_law_moduli"] []) : FnOk P w K mg base CX0 5 f fd ["_law_form", "_law_moduli"] (spToldW K) := by
  have nd := scLToldW.nd
  refine F.ok scLToldW (fun vs H Q E h => ?_) (fun cdv A outer s H vs Q E hr h => ?_)
  · obtain ⟨_, _, _, _, _, _, rfl, _⟩ := h
    rfl
  · obtain ⟨v, b, as, ms, ns, ps, rfl, hv, hb, pos, pos2, len, mfew, pl, few, few2, ok, q⟩ := h
    have hr1 : Room 1 _ := hr.mono (by decide)
    refine ⟨_, pss_one (ps_ret (pe_tup (pa_cons (pe_callTy call_list_of (by rfl) T.list (by decide +kernel) (pa_cons (pv 1) pa_nil))
      (pa_cons (pe_lc (own := [("_law_rests_here", 2)]) (g := gName 2) rfl nd (pi_list (pe_call GR hr1 rfl T.gR kR bR .nil pass0 (pa_cons (pv 1) pa_nil)))
        (blkOk_by (N := ["_law_form", "_law_moduli", "_law_rests_here"]) (sc := defScope sLToldW) (by decide +kernel)) (fun _ _ _ _ _ => pg_name (i := 2) nd rfl (Or.inl rfl)) (fun _ _ _ _ _ => pts_nil)
        (fun _ _ _ _ _ => pe_call GC hr rfl T.gC kC bC .nil pass0 (pa_cons (pe_call GP hr1 rfl T.gP kP bP .nil pass0 (pa_cons (pv 0) (pa_cons (pv 2) pa_nil))) pa_nil))) pa_nil)))), ?_⟩
    refine ⟨_, rfl, b, _, rfl, .inl hb, fun l0 hl0 => ?_⟩
    have z0 := same_new (o := .lst (NL ns)) hl0
    have e0 : upd H l0 (.lst (NL ns)) l0 = some (.lst (NL ns)) := upd_same
    generalize upd H l0 (.lst (NL ns)) = H0 at *
    refine ⟨_, rfl, b, ns, rfl, z0.seq hb, pos2, few2, by omega, fun H1 rp rx rcs sm1 hrp ro _ => ?_⟩
    refine ⟨rp, rfl, ⟨_, SqL.of hrp⟩, fun D hD => ?_⟩
    have al : (allRests ns).length = FM.vol ns := FM.tab_len _ _
    have xl : rx.length = FM.vol ns := by
      have := ro.len
      rw [List.length_map, al] at this
      exact this
    refine lc_list (K := K) (a := rp) (xs := rx) (fun i H' => ∃ vs cs, Filling H1 H' D (((allRests ns).take i).map fun r => pieceD (formF ms ps r)) vs cs ∧ vs.length = i) ⟨_, _, Filling.start hD, rfl⟩ (fun i H' _ ⟨_, _, Fl, _⟩ => SqL.of (Fl.same _ _ hrp)) ?_ ?_
    · rintro i x H2 hx ⟨vs, cs, Fl, hvl⟩
      have il := (List.getElem?_eq_some_iff.mp hx).1
      obtain ⟨d, b1, hd1, hd2, _⟩ := (ro.same Fl.same).at hx
      rw [List.getElem?_map] at hd1
      obtain ⟨r, er, rfl⟩ := Option.map_eq_some_iff.mp hd1
      obtain ⟨ra, rfl, hra⟩ := own_nats hd2
      have rl : r.length = ns.length := FM.rest_len (rest_of (List.mem_of_getElem? er))
      have smA := (z0.trans sm1).trans Fl.same
      have rw0 : rowsOf ms ps (r.map fun n : Nat => (n : Int)) = formF ms ps r := by
        unfold rowsOf formF FM.told
        rw [modI_nat]
      have mem : formF ms ps r ∈ ps := by
        have il2 : FM.plc ms (FM.modl ms r) < ps.length := by
          rw [pl]
          exact FM.plc_lt (FM.modl_rest pos (by omega))
        unfold formF FM.told
        rw [List.getD_eq_getElem?_getD, List.getElem?_eq_getElem il2]
        exact List.getElem_mem il2
      refine ⟨rfl, _, rfl, _, rfl, v, ra, as, ms, ps, r.map fun n : Nat => (n : Int), rfl, hv.same smA, SqL.of (by rw [nl_il]; exact hra), pos, by rw [List.length_map]; omega, pl, by omega, fun H3 u ub sm3 hu sub => ?_⟩
      rw [rw0] at hu
      refine ⟨pieceD (formF ms ps r), u, ub, rfl, hu, piece_depth _, piece_nodes (ok _ mem), fun H4 c cb sm4 oc nc ndc => ?_⟩
      refine ⟨vs, (sm3.trans sm4) _ _ Fl.at_, Nat.lt_of_le_of_lt (show vs.length ≤ 1000000 by omega) (by decide), vs ++ [c], cs ++ cb, ?_, by rw [List.length_append, hvl]; rfl⟩
      rw [List.take_add_one, er, List.map_append]
      exact Fl.more hD (sm3.trans sm4) oc (fun z hz => sm3.free (nc z hz)) ndc
    · rintro H2 ⟨vs, cs, Fl, hvl⟩
      rw [xl, ← al, List.take_length] at Fl
      have tm : (allRests ns).map (fun r => pieceD (formF ms ps r)) = (FM.tab ns (formF ms ps)).map pieceD :=
        (FM.tab_map (fun r => pieceD (formF ms ps r)) ns (fun r => r)).symm.trans (FM.tab_map pieceD ns (formF ms ps))
      rw [tm] at Fl
      obtain ⟨n1, n2, n3⟩ := Fl.list hD
      refine ⟨(by show 2 ≤ sizeLine; decide), fun p hp => ?_⟩
      have zp := same_new (o := .tup [V.ref l0, V.ref D]) hp
      have l2 := (sm1.trans Fl.same) _ _ e0
      refine q _ _ _ ((z0.trans sm1).trans (Fl.same.trans zp)) (form_own upd_same (zp _ _ l2) (zp _ _ Fl.at_) (Fl.own.same zp)) ?_ ?_
      · intro z hz
        simp only [List.append_nil, List.singleton_append, List.mem_cons] at hz
        rcases hz with rfl | rfl | rfl | hz
        · exact ((z0.trans sm1).trans Fl.same).free hp
        · exact hl0
        · exact (z0.trans sm1).free hD
        · exact (z0.trans sm1).free (Fl.new z hz)
      · have f1 : p ≠ l0 := ne_of_none' l2 hp
        have f2 : p ≠ D := ne_of_none' Fl.at_ hp
        have f3 : p ∉ cs := Fl.own.not hp
        have f4 : l0 ≠ D := fun z => by
          rw [z, ] at e0
          have := sm1 _ _ e0
          rw [hD] at this
          cases this
        have f5 : l0 ∉ cs := fun z => by
          have := Fl.new l0 z
          rw [sm1 _ _ e0] at this
          cases this
        simp only [List.append_nil, List.singleton_append, List.nodup_cons, List.mem_cons, not_or]
        exact ⟨⟨f1, f2, f3⟩, ⟨f4, f5⟩, Fl.out, Fl.nd⟩
end
end K09

set_option Elab.async false
set_option linter.all false
set_option maxRecDepth 100000
set_option maxHeartbeats 4000000
set_option exponentiation.threshold 5000
namespace K09
open PySem L2 DL PySem.HouseX CM
theorem intD_piece (rs : List Line) : IntD (pieceD rs) := by
  refine ⟨?_, intD_ints _, trivial⟩
  show IntDs _
  exact intDs_iff.mpr fun d hd => by
    obtain ⟨r, _, rfl⟩ := List.mem_map.mp hd
    exact intD_ints _
theorem piece_inj {x y : List Line} (h : pieceD x = pieceD y) : x = y := by
  unfold pieceD matD at h
  have h0 := PyData.tuple.inj h
  simp only [List.cons.injEq, PyData.list.injEq, and_true] at h0
  obtain ⟨h1, h2⟩ := h0
  have h3 := ints_inj h2
  clear h h2
  induction x generalizing y with
  | nil =>
    cases y with
    | nil => rfl
    | cons _ _ => simp at h3
  | cons a x ih =>
    cases y with
    | nil => simp at h3
    | cons b y =>
      simp only [List.map_cons, List.cons.injEq, PyData.list.injEq] at h1 h3
      obtain ⟨a1, a2⟩ := a
      obtain ⟨b1, b2⟩ := b
      have e1 := ints_inj h1.1
      simp only at e1
      have e2 := h3.1
      simp only at e2
      rw [ih h1.2 h3.2, e1, e2]
theorem shaped_piece (rs : List Line) : SeqAt.shaped (pieceD rs) = true := by
  have h1 : (pieceD rs).depth ≤ 64 := Nat.le_trans (piece_depth rs) (by decide)
  have h2 : (pieceD rs).canLay0 = true := lay_intD (intD_piece rs)
  unfold SeqAt.shaped
  rw [h2, decide_eq_true h1]
  rfl
/-- moved to its rest by d at the place k, each rests' piece is the same -/
def LowAll (ms : List Nat) (F : List Nat → List Line) (k d : Nat) : Prop := ∀ r, FM.Rest ms r → F (r.set k (r.getD k 0 % d)) = F r
def spLPeriod (K : PySem.W.Frag) : Sp := fun vs H Q _ => ∃ (v : V) (as : List Addr) (ms : List Nat) (ps : List (List Line)) (k d : Nat), vs = [v, .int k, .int d] ∧ Own H (formD ms ps) v as ∧ (∀ m ∈ ms, 0 < m) ∧ k < ms.length ∧ 0 < d ∧ d < 1000000 ∧ ms.length ≤ 100 ∧ ps.length = FM.vol ms ∧ FM.vol ms < 100000 ∧
  ∀ H' B, Same H H' → (B = true ↔ LowAll ms (formF ms ps) k d) → Q (.bl B) H'
structure TxtG19 (mg : Str → Option Value) (fM fP fR : Addr) : Prop where
  zip : mg "zip" = none
  int : mg "int" = none
  gM : mg "_law_hd_moved" = some (.ref fM)
  gP : mg "_law_hd_piece" = some (.ref fP)
  gR : mg "_law_hd_rests" = some (.ref fR)
section
variable {P : Program} {w : World} {K : PySem.W.Frag} {mg : Str → Option Value} {base : Heap}
theorem scLPeriod : FnScope ["_law_form", "_law_rank", "_law_part", "_law_rests_here", "_law_piece", "_law_low"] ["_law_form", "_law_rank", "_law_part"] (defScope sLPeriod) := ⟨rfl, rfl, rfl, by decide +kernel, rfl, by decide +kernel, by decide +kernel⟩
theorem ok_lperiod {f fM fP fR : Addr} {fd fdM fdP fdR : FuncData} (F : Fun K "_law_hd_is_period" "_law_hd_is_period" sLPeriod f fd) (T : TxtG19 mg fM fP fR)
    (GM : FnOk P w K mg base CX0 1 fM fdM ["_law_state_here", "_law_rank", "_law_amount"] (spMoved K)) (kM : PySem.W.keepIn K (.ref fM) = true) (bM : Binds K fdM ["_law_state_here", "_law_rank", "_law_amount"] [])
    (GP : FnOk P w K mg base CX0 1 fP fdP ["_law_form", "_law_state_here"] (spLPieceO K)) (kP : PySem.W.keepIn K (.ref fP) = true) (bP : Binds K fdP ["_law_form", "_law_state_here"] [])
    (GR : FnOk P w K mg base CX0 1 fR fdR ["_law_moduli"] (spLRests K)) (kR : PySem.W.keepIn K (.ref fR) = true) (bR : Binds K fdR ["_law_moduli"] []) : FnOk P w K mg base CX0 2 f fd ["_law_form", "_law_rank", "_law_part"] (spLPeriod K) := by
  have nd := scLPeriod.nd
  refine F.ok scLPeriod (fun vs H Q E h => ?_) (fun cdv A outer s H vs Q E hr h => ?_)
  · obtain ⟨_, _, _, _, _, _, rfl, _⟩ := h
    rfl
  · obtain ⟨v, as, ms, ps, k, d, rfl, hv, pos, hk, d0, d1, mfew, pl, few, q⟩ := h
    refine ⟨_, pss_cons (ps_for PassesOwn.never rfl (pi_zip (by rfl) T.zip (pa_cons (pe_call GR hr rfl T.gR kR bR .nil pass0 (pa_cons (pe_ix ix_tup (pv 0) pe_int (fun _ _ => rfl)) pa_nil)) (pa_cons (pe_ix ix_tup (pv 0) pe_int (fun _ _ => rfl)) pa_nil)))
        (pg_tup rfl (pgs_cons (pg_name (i := 3) nd rfl (Or.inl rfl)) (pgs_cons (pg_name (i := 4) nd rfl (Or.inl rfl)) pgs_nil)))
        (pss_cons (ps_set (i := 5) nd rfl (Or.inl rfl) (pe_call GM hr rfl T.gM kM bM .nil pass0 (pa_cons (pv 3) (pa_cons (pv 1) (pa_cons (pe_op op_modN (pe_callTy call_int1 (by rfl) T.int (by decide +kernel) (pa_cons (pe_ix ix_list (pv 3) (pv 1) (fun _ _ => rfl)) pa_nil)) (pv 2)) pa_nil)))))
        (pss_one (ps_if (pt_cmpR (op_neD hr.units) (pe_call GP hr rfl T.gP kP bP .nil pass0 (pa_cons (pv 0) (pa_cons (pv 5) pa_nil))) (pv 4) (nomark _)) (pss_one (ps_ret pe_bl)) pss_nil))))
      (pss_one (ps_ret pe_bl)), ?_⟩
    obtain ⟨t, a, b, xs, cs, rfl, ht, ha, hb, ho, sub⟩ := own_form hv
    have xl : xs.length = ps.length := by have := ho.len; rwa [List.length_map] at this
    refine ⟨_, rfl, t, _, _, .ref a, rfl, rfl, SqT.of ht, rfl, a, ms, rfl, SqL.of ha, pos, few, mfew, fun H1 rp rx rcs sm1 hrp ro _ => ?_⟩
    have al : (allRests ms).length = FM.vol ms := FM.tab_len _ _
    have rl : rx.length = FM.vol ms := by
      have := ro.len
      rw [List.length_map, al] at this
      exact this
    refine ⟨_, rfl, t, _, _, .ref b, rfl, rfl, SqT.of (sm1 _ _ ht), rfl, rp, b, rx, xs, rfl, SqL.of hrp, SqL.of (sm1 _ _ hb), ?_⟩
    have at_ : ∀ {i : Nat} {r : List Nat}, (allRests ms)[i]? = some r → FM.Rest ms r ∧ FM.plc ms r = i := fun {i r} e => by
      have il := (List.getElem?_eq_some_iff.mp e).1
      obtain ⟨r', hr', e'⟩ := FM.plc_sur (show i < FM.vol ms by omega)
      have z := FM.tab_at (F := fun r => r) hr'
      rw [e'] at z
      have z3 : some r' = some r := z.symm.trans e
      obtain rfl := Option.some.inj z3
      exact ⟨hr', e'⟩
    refine for_it (walk_zip (K := K) (a := rp) (b := b) (xs := rx) (ys := xs) (n := FM.vol ms) (by omega)) (fun i σ H' => Same H1 H' ∧ (∀ j r, j < i → (allRests ms)[j]? = some r → formF ms ps (r.set k (r.getD k 0 % d)) = formF ms ps r) ∧ ∃ x3 x4 x5, σ = [some (.ref t), some (.int (k : Nat)), some (.int (d : Nat)), x3, x4, x5])
      ⟨Same.refl _, fun j r h => absurd h (by omega), _, _, _, rfl⟩ (fun i σ H' _ ⟨kk, _⟩ => ⟨SqL.of (kk _ _ hrp), SqL.of (kk _ _ (sm1 _ _ hb))⟩) ?_ ?_
    · rintro i x σ H2 H2' hi ⟨sm2, all, x3, x4, x5, rfl⟩ ⟨T', vx, vy, rfl, hT, rfl, hx, hy⟩
      have zT := same_new (o := .tup [vx, vy]) hT
      have s2 := sm2.trans zT
      have hx' : rx[i]? = some vx := hx
      have hy' : xs[i]? = some vy := hy
      obtain ⟨dd, b1, hd1, hd2, _⟩ := (ro.same s2).at hx'
      rw [List.getElem?_map] at hd1
      obtain ⟨r, er, rfl⟩ := Option.map_eq_some_iff.mp hd1
      obtain ⟨ra, rfl, hra⟩ := own_nats hd2
      obtain ⟨hr, pi⟩ := at_ er
      have rlen := FM.rest_len hr
      obtain ⟨d2, b2, he1, he2, _⟩ := (ho.same (sm1.trans s2)).at hy'
      rw [List.getElem?_map] at he1
      obtain ⟨rs, ers, rfl⟩ := Option.map_eq_some_iff.mp he1
      have eF : formF ms ps r = rs := by
        unfold formF FM.told
        rw [FM.modl_id hr, pi, List.getD_eq_getElem?_getD, ers]
        rfl
      obtain ⟨y, hyk⟩ : ∃ y, y = r.getD k 0 := ⟨_, rfl⟩
      have ey : r[k]? = some y := by rw [hyk, List.getD_eq_getElem?_getD, List.getElem?_eq_getElem (by omega)]; rfl
      have ay : (NL r)[k]? = some (V.int (y : Nat)) := by
        unfold NL
        rw [List.getElem?_map, ey]
        rfl
      have fe : ((y : Nat) : Int).fmod ((d : Nat) : Int) = ((y % d : Nat) : Int) := by
        rw [Int.fmod_eq_emod_of_nonneg _ (by omega)]
        rfl
      refine ⟨T', _, rfl, SqT.of upd_same, rfl, _, _, rfl, _, _, rfl, rfl, ?_⟩
      refine ⟨_, rfl, _, rfl, _, rfl, _, rfl, ra, _, _, V.int (y : Nat), rfl, rfl, SqL.of hra, atI_nat ay, .inl ⟨_, rfl, ?_⟩⟩
      refine ⟨_, rfl, _, _, rfl, rfl, by omega, ra, r.map fun n : Nat => (n : Int), k, ((y % d : Nat) : Int), congrArg (fun v => [V.ref ra, V.int (k : Nat), V.int v]) fe, SqL.of (by rw [nl_il]; exact hra), by rw [List.length_map]; omega, fun H3 p sm3 hp hnp => ?_⟩
      have low : (r.map fun n : Nat => (n : Int)).set k ((y % d : Nat) : Int) = (r.set k (r.getD k 0 % d)).map fun n : Nat => (n : Int) := by
        rw [List.map_set, ← hyk]
      rw [low] at hnp
      refine ⟨_, rfl, _, rfl, .ref t, p, as, ms, ps, (r.set k (r.getD k 0 % d)).map fun n : Nat => (n : Int), rfl, hv.same (sm1.trans (s2.trans sm3)), SqL.of hnp, pos, by rw [List.length_map, List.length_set]; omega, pl, by omega, fun H4 u ub sm4 hu _ => ?_⟩
      have rw0 : rowsOf ms ps ((r.set k (r.getD k 0 % d)).map fun n : Nat => (n : Int)) = formF ms ps (r.set k (r.getD k 0 % d)) := by
        unfold rowsOf formF FM.told
        rw [modI_nat]
      rw [rw0] at hu
      have he3 := he2.same (sm3.trans sm4)
      have iff := eqv_intD (intD_piece (formF ms ps (r.set k (r.getD k 0 % d)))) (intD_piece rs)
      refine ⟨_, rfl, pieceD (formF ms ps (r.set k (r.getD k 0 % d))), pieceD rs, hu.dp, he3.dp, shaped_piece _, shaped_piece _, _, rfl, ?_⟩
      have smE := s2.trans (sm3.trans sm4)
      cases hc : PyData.eqv (pieceD (formF ms ps (r.set k (r.getD k 0 % d)))) (pieceD rs) with
      | false =>
        refine iteT ?_
        refine q H4 false (sm1.trans smE) ⟨fun z => (nomatch z), fun L => ?_⟩
        have := iff.mpr (by rw [L r hr, eF])
        rw [hc] at this
        cases this
      | true =>
        refine iteF ?_
        refine ⟨smE, fun j r' hj e => ?_, _, _, _, rfl⟩
        by_cases hji : j = i
        · subst hji
          rw [er] at e
          obtain rfl := Option.some.inj e
          rw [eF]
          exact piece_inj (iff.mp hc)
        · exact all j r' (by omega) e
    · rintro σ H2 ⟨sm2, all, x3, x4, x5, rfl⟩
      refine q H2 true (sm1.trans sm2) ⟨fun _ r hr => ?_, fun _ => rfl⟩
      exact all _ r (FM.plc_lt hr) (FM.tab_at (F := fun r => r) hr)
end
end K09

set_option Elab.async false
set_option linter.all false
set_option maxRecDepth 100000
set_option maxHeartbeats 4000000
/-! differences of tables, and the first state at which one is not nought -/
namespace K09
open PySem L2 DL PySem.HouseX CM
def Line.less (r s : Line) : Line := ⟨List.zipWith (· - ·) r.is s.is, r.am - s.am⟩
def lessR (rs ss : List Line) : List Line := List.zipWith Line.less rs ss
theorem dot_less : ∀ {as bs st : List Int}, as.length = bs.length → dotI (List.zipWith (· - ·) as bs) st = dotI as st - dotI bs st
  | [], [], st, _ => by cases st <;> rfl
  | a :: as, b :: bs, [], _ => rfl
  | a :: as, b :: bs, s :: st, h => by
    show (a - b) * s + dotI (List.zipWith (· - ·) as bs) st = (a * s + dotI as st) - (b * s + dotI bs st)
    rw [dot_less (Nat.succ.inj h), Int.sub_mul]
    omega
theorem less_at {r s : Line} {st : List Int} (h : r.is.length = s.is.length) : (r.less s).at st = r.at st - s.at st := by
  show dotI (List.zipWith (· - ·) r.is s.is) st + (r.am - s.am) = (dotI r.is st + r.am) - (dotI s.is st + s.am)
  rw [dot_less h]
  omega
/-- all results are nought there -/
def Zero (rs : List Line) (st : List Int) : Prop := ∀ r ∈ rs, r.at st = 0
def Wid (n : Nat) (rs : List Line) : Prop := ∀ r ∈ rs, r.is.length = n
theorem zero_less : ∀ {rs ss : List Line} {n : Nat} {st : List Int}, rs.length = ss.length → Wid n rs → Wid n ss → (Zero (lessR rs ss) st ↔ rs.map (·.at st) = ss.map (·.at st))
  | [], [], _, _, _, _, _ => ⟨fun _ => rfl, fun _ r hr => nomatch hr⟩
  | r :: rs, s :: ss, n, st, h, h1, h2 => by
    have ih := zero_less (rs := rs) (ss := ss) (n := n) (st := st) (Nat.succ.inj h) (fun x hx => h1 x (List.mem_cons_of_mem _ hx)) (fun x hx => h2 x (List.mem_cons_of_mem _ hx))
    have e := less_at (r := r) (s := s) (st := st) ((h1 r List.mem_cons_self).trans (h2 s List.mem_cons_self).symm)
    rw [List.map_cons, List.map_cons, List.cons.injEq, ← ih]
    constructor
    · intro z
      refine ⟨?_, fun x hx => z x (List.mem_cons_of_mem _ hx)⟩
      have := z (r.less s) List.mem_cons_self
      omega
    · rintro ⟨z1, z2⟩ x hx
      rcases List.mem_cons.mp hx with e2 | e2
      · rw [e2, e]
        omega
      · exact z2 x e2
/-- a line of noughts -/
def Nought (r : Line) : Prop := (∀ x ∈ r.is, x = 0) ∧ r.am = 0
theorem less_nought : ∀ {as bs : List Int}, as.length = bs.length → (∀ x ∈ List.zipWith (· - ·) as bs, x = 0) → as = bs
  | [], [], _, _ => rfl
  | a :: as, b :: bs, h, z => by
    have e := z (a - b) List.mem_cons_self
    rw [less_nought (Nat.succ.inj h) fun x hx => z x (List.mem_cons_of_mem _ hx), show a = b by omega]
theorem lessR_nought : ∀ {rs ss : List Line} {n : Nat}, rs.length = ss.length → Wid n rs → Wid n ss → (∀ r ∈ lessR rs ss, Nought r) → rs = ss
  | [], [], _, _, _, _, _ => rfl
  | r :: rs, s :: ss, n, h, h1, h2, z => by
    obtain ⟨z1, z2⟩ := z (r.less s) List.mem_cons_self
    have e1 := less_nought ((h1 r List.mem_cons_self).trans (h2 s List.mem_cons_self).symm) z1
    have e2 : r.am - s.am = 0 := z2
    rw [lessR_nought (Nat.succ.inj h) (fun x hx => h1 x (List.mem_cons_of_mem _ hx)) (fun x hx => h2 x (List.mem_cons_of_mem _ hx)) fun x hx => z x (List.mem_cons_of_mem _ hx)]
    congr 1
    obtain ⟨r1, r2⟩ := r
    obtain ⟨s1, s2⟩ := s
    simp only at e1 e2
    have e3 : r2 = s2 := by omega
    rw [e1, e3]
theorem lessR_wid : ∀ {rs ss : List Line} {n : Nat}, Wid n rs → Wid n ss → Wid n (lessR rs ss)
  | [], _, _, _, _ => fun r hr => by simp [lessR] at hr
  | _ :: _, [], _, _, _ => fun r hr => by simp [lessR] at hr
  | r :: rs, s :: ss, n, h1, h2 => fun x hx => by
    rcases List.mem_cons.mp hx with e | e
    · rw [e]
      show (List.zipWith (· - ·) r.is s.is).length = n
      rw [List.length_zipWith, h1 r List.mem_cons_self, h2 s List.mem_cons_self]
      exact Nat.min_self n
    · exact lessR_wid (rs := rs) (ss := ss) (fun x hx => h1 x (List.mem_cons_of_mem _ hx)) (fun x hx => h2 x (List.mem_cons_of_mem _ hx)) x e
theorem zip_le : ∀ {as bs : List Int} {b1 b2 : Nat}, (∀ x ∈ as, x.natAbs ≤ b1) → (∀ x ∈ bs, x.natAbs ≤ b2) → ∀ x ∈ List.zipWith (· - ·) as bs, x.natAbs ≤ b1 + b2
  | [], _, _, _, _, _, x, hx => by simp at hx
  | _ :: _, [], _, _, _, _, x, hx => by simp at hx
  | a :: as, b :: bs, b1, b2, h1, h2, x, hx => by
    rcases List.mem_cons.mp hx with e | e
    · have q1 := h1 a List.mem_cons_self
      have q2 := h2 b List.mem_cons_self
      have e' : x = a - b := e
      omega
    · exact zip_le (fun x hx => h1 x (List.mem_cons_of_mem _ hx)) (fun x hx => h2 x (List.mem_cons_of_mem _ hx)) x e
theorem lessR_le : ∀ {rs ss : List Line} {b1 b2 : Nat}, (∀ r ∈ rs, ∀ x ∈ r.is, x.natAbs ≤ b1) → (∀ r ∈ ss, ∀ x ∈ r.is, x.natAbs ≤ b2) → ∀ r ∈ lessR rs ss, ∀ x ∈ r.is, x.natAbs ≤ b1 + b2
  | [], _, _, _, _, _, r, hr => by simp [lessR] at hr
  | _ :: _, [], _, _, _, _, r, hr => by simp [lessR] at hr
  | r :: rs, s :: ss, b1, b2, h1, h2, y, hy => by
    rcases List.mem_cons.mp hy with e | e
    · rw [e]
      exact zip_le (h1 r List.mem_cons_self) (h2 s List.mem_cons_self)
    · exact lessR_le (fun x hx => h1 x (List.mem_cons_of_mem _ hx)) (fun x hx => h2 x (List.mem_cons_of_mem _ hx)) y e
/-! ### the states in their order -/
def amts (f : Nat) : List Int := (List.range (2 * f + 1)).map fun i : Nat => (i : Int) - f
def boxI : Nat → Nat → List (List Int)
  | 0, _ => [[]]
  | n + 1, f => (amts f).flatMap fun a => (boxI n f).map (a :: ·)
def ringI : Nat → Nat → List (List Int)
  | 0, _ => []
  | n + 1, f => (amts f).flatMap fun a => (if a.natAbs = f then boxI n f else ringI n f).map (a :: ·)
theorem box_snoc : ∀ n f : Nat, boxI (n + 1) f = (boxI n f).flatMap fun s => (amts f).map fun a => s ++ [a]
  | 0, f => by
    show (amts f).flatMap (fun a => [[a]]) = ([[]] : List (List Int)).flatMap _
    rw [List.flatMap_cons, List.flatMap_nil, List.append_nil]
    exact List.map_eq_flatMap.symm
  | n + 1, f => by
    show (amts f).flatMap (fun a => (boxI (n + 1) f).map (a :: ·)) = ((amts f).flatMap fun a => (boxI n f).map (a :: ·)).flatMap _
    rw [List.flatMap_assoc]
    congr 1
    funext a
    rw [box_snoc n f, List.map_flatMap, List.flatMap_map]
    congr 1
    funext s
    rw [List.map_map]
    rfl
theorem amts_mem {f : Nat} {x : Int} : x ∈ amts f ↔ x.natAbs ≤ f := by
  unfold amts
  rw [List.mem_map]
  constructor
  · rintro ⟨i, hi, rfl⟩
    have := List.mem_range.mp hi
    omega
  · intro h
    exact ⟨(x + f).toNat, List.mem_range.mpr (by omega), by omega⟩
theorem box_mem : ∀ {n f : Nat} {s : List Int}, s ∈ boxI n f ↔ s.length = n ∧ ∀ x ∈ s, x.natAbs ≤ f
  | 0, f, s => by
    show s ∈ [[]] ↔ _
    rw [List.mem_singleton]
    constructor
    · rintro rfl
      exact ⟨rfl, fun x hx => nomatch hx⟩
    · rintro ⟨h, _⟩
      exact List.length_eq_zero_iff.mp h
  | n + 1, f, s => by
    show s ∈ (amts f).flatMap _ ↔ _
    rw [List.mem_flatMap]
    constructor
    · rintro ⟨a, ha, hs⟩
      obtain ⟨t, ht, rfl⟩ := List.mem_map.mp hs
      obtain ⟨h1, h2⟩ := box_mem.mp ht
      refine ⟨congrArg Nat.succ h1, fun x hx => ?_⟩
      rcases List.mem_cons.mp hx with e | e
      · rw [e]
        exact amts_mem.mp ha
      · exact h2 x e
    · rintro ⟨h1, h2⟩
      cases s with
      | nil => cases h1
      | cons a t => exact ⟨a, amts_mem.mpr (h2 a List.mem_cons_self), List.mem_map.mpr ⟨t, box_mem.mpr ⟨Nat.succ.inj h1, fun x hx => h2 x (List.mem_cons_of_mem _ hx)⟩, rfl⟩⟩
theorem ring_mem : ∀ {n f : Nat} {s : List Int}, s ∈ ringI n f ↔ s.length = n ∧ (∀ x ∈ s, x.natAbs ≤ f) ∧ ∃ x ∈ s, x.natAbs = f
  | 0, f, s => by
    show s ∈ [] ↔ _
    constructor
    · intro h
      cases h
    · rintro ⟨h, _, x, hx, _⟩
      rw [List.length_eq_zero_iff.mp h] at hx
      cases hx
  | n + 1, f, s => by
    show s ∈ (amts f).flatMap _ ↔ _
    rw [List.mem_flatMap]
    constructor
    · rintro ⟨a, ha, hs⟩
      obtain ⟨t, ht, rfl⟩ := List.mem_map.mp hs
      by_cases e : a.natAbs = f
      · rw [if_pos e] at ht
        obtain ⟨h1, h2⟩ := box_mem.mp ht
        refine ⟨congrArg Nat.succ h1, fun x hx => ?_, a, List.mem_cons_self, e⟩
        rcases List.mem_cons.mp hx with e | e
        · rw [e]
          exact amts_mem.mp ha
        · exact h2 x e
      · rw [if_neg e] at ht
        obtain ⟨h1, h2, y, hy, hy2⟩ := ring_mem.mp ht
        refine ⟨congrArg Nat.succ h1, fun x hx => ?_, y, List.mem_cons_of_mem _ hy, hy2⟩
        rcases List.mem_cons.mp hx with e | e
        · rw [e]
          exact amts_mem.mp ha
        · exact h2 x e
    · rintro ⟨h1, h2, y, hy, hy2⟩
      cases s with
      | nil => cases h1
      | cons a t =>
        refine ⟨a, amts_mem.mpr (h2 a List.mem_cons_self), List.mem_map.mpr ⟨t, ?_, rfl⟩⟩
        have l : t.length = n := Nat.succ.inj h1
        by_cases e : a.natAbs = f
        · rw [if_pos e]
          exact box_mem.mpr ⟨l, fun x hx => h2 x (List.mem_cons_of_mem _ hx)⟩
        · rw [if_neg e]
          refine ring_mem.mpr ⟨l, fun x hx => h2 x (List.mem_cons_of_mem _ hx), y, ?_, hy2⟩
          rcases List.mem_cons.mp hy with z | z
          · rw [z] at hy2
            exact absurd hy2 e
          · exact z
abbrev ltI (a b : List Int) : Bool := PySem.W.listLt a b
theorem ltI_cons {x y : Int} {xs ys : List Int} : ltI (x :: xs) (y :: ys) = if x = y then ltI xs ys else decide (x < y) := rfl
theorem ltI_irr : ∀ xs : List Int, ltI xs xs = false
  | [] => rfl
  | x :: xs => by
    rw [ltI_cons, if_pos rfl]
    exact ltI_irr xs
theorem ltI_asym : ∀ xs ys : List Int, ltI xs ys = true → ltI ys xs = false
  | [], [], _ => rfl
  | [], _ :: _, _ => rfl
  | _ :: _, [], h => by cases h
  | x :: xs, y :: ys, h => by
    rw [ltI_cons] at h ⊢
    by_cases e : x = y
    · rw [if_pos e] at h
      rw [if_pos e.symm]
      exact ltI_asym xs ys h
    · rw [if_neg e] at h
      rw [if_neg fun z => e z.symm]
      have := of_decide_eq_true h
      exact decide_eq_false (by omega)
theorem sort_flat {L : Int → List (List Int)} (hL : ∀ a, (L a).Pairwise fun s t => ltI s t = true) : ∀ {as : List Int}, as.Pairwise (· < ·) → (as.flatMap fun a => (L a).map (a :: ·)).Pairwise fun s t => ltI s t = true
  | [], _ => List.Pairwise.nil
  | a :: as, h => by
    obtain ⟨h1, h2⟩ := List.pairwise_cons.mp h
    rw [List.flatMap_cons]
    refine List.pairwise_append.mpr ⟨?_, sort_flat hL h2, fun s hs t ht => ?_⟩
    · rw [List.pairwise_map]
      refine (hL a).imp fun {s t} z => ?_
      rw [ltI_cons, if_pos rfl]
      exact z
    · obtain ⟨s', _, rfl⟩ := List.mem_map.mp hs
      obtain ⟨b, hb, ht'⟩ := List.mem_flatMap.mp ht
      obtain ⟨t', _, rfl⟩ := List.mem_map.mp ht'
      have := h1 b hb
      rw [ltI_cons, if_neg (by omega)]
      exact decide_eq_true this
theorem amts_sort (f : Nat) : (amts f).Pairwise (· < ·) := by
  unfold amts
  rw [List.pairwise_map]
  exact (List.pairwise_lt_range (n := 2 * f + 1)).imp fun {a b} h => by omega
theorem box_sort : ∀ n f : Nat, (boxI n f).Pairwise fun s t => ltI s t = true
  | 0, _ => List.pairwise_singleton _ _
  | n + 1, f => sort_flat (fun _ => box_sort n f) (amts_sort f)
theorem ring_sort : ∀ n f : Nat, (ringI n f).Pairwise fun s t => ltI s t = true
  | 0, _ => List.Pairwise.nil
  | n + 1, f => sort_flat (L := fun a => if a.natAbs = f then boxI n f else ringI n f) (fun a => by
      by_cases e : a.natAbs = f
      · rw [if_pos e]
        exact box_sort n f
      · rw [if_neg e]
        exact ring_sort n f) (amts_sort f)
theorem max_abs : ∀ {s : List Int}, s ≠ [] → ∃ g, (∀ x ∈ s, x.natAbs ≤ g) ∧ ∃ x ∈ s, x.natAbs = g
  | [], h => absurd rfl h
  | [x], _ => ⟨x.natAbs, fun y hy => by rw [List.mem_singleton.mp hy]; exact Nat.le_refl _, x, List.mem_singleton.mpr rfl, rfl⟩
  | x :: y :: s, _ => by
    obtain ⟨g, h1, z, hz, e⟩ := max_abs (s := y :: s) (by simp)
    by_cases h : x.natAbs ≤ g
    · refine ⟨g, fun w hw => ?_, z, List.mem_cons_of_mem _ hz, e⟩
      rcases List.mem_cons.mp hw with q | q
      · rw [q]; exact h
      · exact h1 w q
    · refine ⟨x.natAbs, fun w hw => ?_, x, List.mem_cons_self, rfl⟩
      rcases List.mem_cons.mp hw with q | q
      · rw [q]; exact Nat.le_refl _
      · have := h1 w q
        omega
/-- the first state, by the greatest size and then in the order of lists, at which Z does not hold -/
structure FirstSt (Z : List Int → Prop) (n : Nat) (far : Nat) (st : List Int) : Prop where
  not : ¬ Z st
  cut : ∃ pre suf, ringI n far = pre ++ st :: suf ∧ ∀ s ∈ pre, Z s
  low : ∀ g, g < far → ∀ s ∈ ringI n g, Z s
theorem FirstSt.mem {Z : List Int → Prop} {n far : Nat} {st : List Int} (F : FirstSt Z n far st) : st ∈ ringI n far := by
  obtain ⟨pre, suf, e, _⟩ := F.cut
  rw [e]
  simp
theorem FirstSt.ahead {Z : List Int → Prop} {n far : Nat} {st : List Int} (F : FirstSt Z n far st) {s : List Int} (n0 : 0 < n) (hl : s.length = n) (hb : ∀ x ∈ s, x.natAbs ≤ far) (h : (∀ x ∈ s, x.natAbs < far) ∨ ltI s st = true) : Z s := by
  obtain ⟨g, g1, x, hx, g2⟩ := max_abs (s := s) (by intro z; rw [z] at hl; simp at hl; omega)
  have gf : g ≤ far := by have := hb x hx; omega
  have mem : s ∈ ringI n g := ring_mem.mpr ⟨hl, g1, x, hx, g2⟩
  by_cases e : g = far
  · subst e
    have l : ltI s st = true := by
      rcases h with h | h
      · have := h x hx
        omega
      · exact h
    obtain ⟨pre, suf, e, hp⟩ := F.cut
    have so := ring_sort n g
    rw [e] at mem so
    rcases List.mem_append.mp mem with z | z
    · exact hp s z
    · rcases List.mem_cons.mp z with z | z
      · rw [z, ltI_irr] at l
        cases l
      · have so2 := (List.pairwise_cons.mp (List.pairwise_append.mp so).2.1).1 s z
        rw [ltI_asym _ _ so2] at l
        cases l
  · exact F.low g (by omega) s mem
end K09

set_option Elab.async false
set_option linter.all false
set_option maxRecDepth 100000
set_option maxHeartbeats 4000000
namespace L2
open PySem PySem.Spec PyProof.Rows PySem.HouseX
/-! any of a tuple of integers; the order of lists of integers; the least of a list, with a default -/
theorem truth_ints {prog : Program} {w : World} {A : Around} {ns : List Int} {its : List Value} (e : IntsAre its ns) :
    TruthOf prog w A (fun i v => its.toArray[i]? = some v) (fun i => ns.getD i 0 != 0) := fun i v s Q E hv hq => by
  have hv' : its[i]? = some v := by simpa using hv
  obtain ⟨n, t, rfl, hn⟩ := IntsAre.at e i v hv'
  have hg : ns.getD i 0 = n := by rw [List.getD_eq_getElem?_getD, hn] <;> rfl
  have hq' : Q (ns.getD i 0 != 0) s := hq
  rw [hg] at hq'
  exact PySem.P.truthy_int hq'
theorem any_rangeI : ∀ ns : List Int, (List.range ns.length).any (fun i => ns.getD i 0 != 0) = ns.any (fun n => n != 0)
  | [] => rfl
  | n :: ns => by
    rw [List.length_cons, List.range_succ_eq_map, List.any_cons, List.any_map, List.any_cons, ← any_rangeI ns]
    rfl
section
variable {X : Cx}
def rAnyT (K : PySem.W.Frag) : List V → Hp → VK → Prop := fun vs H Q => ∃ (a : Addr) (ns : List Int), vs = [V.ref a] ∧ SqT K H a (ns.map V.int) ∧ Q (.bl (ns.any fun n => n != 0)) H
theorem cr_anyT (hc : X.calm = true) : CallR X (.builtin "any") (rAnyT X.K) := by
  intro pins s σ H vs us Q I r h
  obtain ⟨a, ns, rfl, hs, q⟩ := h
  obtain ⟨its, rv, hl, _⟩ := I.tuple hs
  rw [Vals.ref1 r]
  have hi : IntsAre its ns := by
    have := intsAre_of rv
    simpa using this
  have ht : s.heap.IsTuple a its.toArray := by
    obtain ⟨o, ho, hc, n, hd⟩ := hl
    first
      | exact ⟨o, ho, hc, n, hd⟩
      | exact ⟨o, n, ho, hc, hd⟩
  have hlt : a < s.heap.objs.size := by
    obtain ⟨o, ho, _⟩ := hl
    exact Heap.lt_size ho
  refine call_any_walk (wpAny_pyIter_tuple ht ?_)
  refine ⟨_, _, _, _, _, _, _, rfl, Walks.tuple (A := X.A.in1) (I.ok.hd hc) _ a (Nat.ne_of_lt hlt) its.toArray, ⟨⟨_, Heap.get?_push_size _ rfl, rfl, rfl⟩, ht.push _⟩, truth_ints hi, fun h' tk hk => ?_⟩
  refine ⟨.bl _, H, I.kept fun b o eo => hk b o (fun hmem => ?_) (Heap.get?_push_of_some _ eo), ?_, q⟩
  · rcases List.mem_cons.mp hmem with e1 | hmem
    · exact absurd (e1 ▸ Heap.lt_size eo) (Nat.lt_irrefl _)
    · cases hmem
  · show Value.bool _ = Value.bool _
    rw [← any_rangeI, List.size_toArray, hi.length]
end
end L2

set_option Elab.async false
set_option linter.all false
set_option maxRecDepth 100000
set_option maxHeartbeats 4000000
namespace L2
open PySem PySem.Spec PyProof.Rows PySem.HouseX
section
variable {X : Cx}
theorem dpn {K : PySem.W.Frag} {H : Hp} : ∀ ns : List Int, DpAll K H (ns.map V.int) (ns.map PyData.int)
  | [] => .nil
  | n :: ns => .cons (.int n) (dpn ns)
theorem ints_reads {pins : List (Addr × Obj)} {σ : St} {H : Hp} {s : Shared} (I : Inv X pins σ H s) {a : Addr} {ns : List Int} (hs : SqL X.K H a (ns.map V.int)) : PySem.W.Holds s.heap (.ref a) ns := by
  have d : Dp X.K H (.ref a) (.list (ns.map PyData.int)) := .lst hs (dpn ns)
  obtain ⟨as, r⟩ := Dp.reads I _ _ (.ref a) d rfl
  exact ⟨as, r⟩
/-- xs < ys, lists of integers -/
def rLtL (K : PySem.W.Frag) : R2 := fun x y H Q => ∃ a b ns ms, x = .ref a ∧ y = .ref b ∧ SqL K H a (ns.map V.int) ∧ SqL K H b (ms.map V.int) ∧ Q (.bl (PySem.W.listLt ns ms)) H
theorem op_ltL (hu : X.A.units + 64 < cLine) : OpR X (compareOp .Lt) (rLtL X.K) := by
  intro pins s σ H x y v u Q I rx ry h
  obtain ⟨a, b, ns, ms, rfl, rfl, ha, hb, q⟩ := h
  cases rx
  cases ry
  have z : PySem.W.Datum.depth (List Int) ≤ 64 := by decide
  exact PySem.W.lt_datum (ints_reads I ha) (ints_reads I hb) (by omega) ⟨.bl _, H, I, rfl, q⟩
/-- min(xs, default=d) of integers -/
def rMinDef (K : PySem.W.Frag) : List V → List V → Hp → VK → Prop := fun vs zs H Q => ∃ (a : Addr) (ns : List Int) (d : V), vs = [V.ref a] ∧ zs = [d] ∧ SqL K H a (ns.map V.int) ∧ 0 < ns.length ∧ ∀ m, m ∈ ns → (∀ y, y ∈ ns → m ≤ y) → Q (.int m) H
theorem foldl_min : ∀ (xs : List Int) (x : Int), (xs.foldl (fun a y => if PySem.W.DatumOrd.lt y a = true then y else a) x ∈ x :: xs) ∧ ∀ y ∈ x :: xs, xs.foldl (fun a y => if PySem.W.DatumOrd.lt y a = true then y else a) x ≤ y
  | [], x => ⟨List.mem_cons_self, fun y hy => by
    rcases List.mem_cons.mp hy with z | z
    · rw [z]; exact Int.le_refl _
    · cases z⟩
  | z :: xs, x => by
    rw [List.foldl_cons]
    have lt_iff : (PySem.W.DatumOrd.lt z x = true) ↔ z < x := by
      show decide (z < x) = true ↔ _
      exact decide_eq_true_iff
    by_cases h : z < x
    · rw [if_pos (lt_iff.mpr h)]
      obtain ⟨h1, h2⟩ := foldl_min xs z
      refine ⟨List.mem_cons_of_mem _ h1, fun y hy => ?_⟩
      rcases List.mem_cons.mp hy with e | e
      · rw [e]
        exact Int.le_trans (h2 z List.mem_cons_self) (Int.le_of_lt h)
      · exact h2 y e
    · rw [if_neg (fun e => h (lt_iff.mp e))]
      obtain ⟨h1, h2⟩ := foldl_min xs x
      refine ⟨?_, fun y hy => ?_⟩
      · rcases List.mem_cons.mp h1 with e | e
        · rw [e]; exact List.mem_cons_self
        · exact List.mem_cons_of_mem _ (List.mem_cons_of_mem _ e)
      · rcases List.mem_cons.mp hy with e | e
        · rw [e]
          exact h2 x List.mem_cons_self
        · rcases List.mem_cons.mp e with e | e
          · rw [e]
            exact Int.le_trans (h2 x List.mem_cons_self) (Int.not_lt.mp h)
          · exact h2 y (List.mem_cons_of_mem _ e)
theorem ck_minDef (hc : X.calm = true) (hu : X.A.units + 64 < cLine) : CallRK X (.builtin "min") [Str.ofString "default"] (rMinDef X.K) := by
  intro pins s σ H xs zs us ws Q I r1 r2 h
  obtain ⟨a, ns, d, rfl, rfl, hs, hne, q⟩ := h
  rw [Vals.ref1 r1]
  cases r2 with
  | cons rv rr =>
    cases rr
    rename_i dv
    obtain ⟨its, rv, hl, _⟩ := I.list hs
    have z : PySem.W.Datum.depth Int ≤ 32 := by decide
    have hold : PySem.W.HoldAll s.heap its ns := by
      obtain ⟨as, r⟩ := Dp.readsAll I (ns.map PyData.int) (ns.map V.int) its (dpn ns) rv
      exact ⟨as, r⟩
    refine PySem.W.min_list_datum_default (I.ok.hd hc) hl.isList hold (by omega) (fun e => ?_) fun y ys i v h' tk e hi hv hk => ?_
    · rw [e] at hne
      cases hne
    · obtain ⟨m1, m2⟩ := foldl_min ys y
      have hv' : ∃ t, v = .int (PySem.W.minOf y ys) t := by
        obtain ⟨as, r⟩ := hv
        have r' : Reads h' v (.int (PySem.W.minOf y ys)) as := r
        cases r'
        exact ⟨_, rfl⟩
      obtain ⟨t, rfl⟩ := hv'
      refine ⟨.int _, H, I.kept hk, ⟨t, rfl⟩, q _ ?_ ?_⟩
      · rw [e]; exact m1
      · rw [e]; exact m2
end
end L2

set_option Elab.async false
set_option linter.all false
set_option maxRecDepth 100000
set_option maxHeartbeats 4000000
set_option exponentiation.threshold 5000
namespace FM
variable {α : Type}
theorem split_at {ms : List Nat} {i m : Nat} (h : ms[i]? = some m) : ms = ms.take i ++ m :: ms.drop (i + 1) ∧ (ms.take i).length = i := by
  obtain ⟨h1, h2⟩ := List.getElem?_eq_some_iff.mp h
  refine ⟨?_, by rw [List.length_take]; omega⟩
  rw [← h2, ← List.drop_eq_getElem_cons h1, List.take_append_drop]
theorem at_split {ms pre suf : List Nat} {m : Nat} (e : ms = pre ++ m :: suf) : ms[pre.length]? = some m := by rw [e]; simp
theorem Told.perI {E : List Nat → α} {ms : List Nat} {p : List α} (T : Told E ms p) {i m : Nat} (h : ms[i]? = some m) : PdC E ms.length i m := by
  obtain ⟨e, l⟩ := split_at h
  have := T.per _ _ _ e
  rwa [l] at this
theorem told_of {E : List Nat → α} {ms : List Nat} (pos : ∀ m ∈ ms, 0 < m) (per : ∀ i m, ms[i]? = some m → PdC E ms.length i m) : Told E ms (tab ms E) :=
  ⟨pos, fun _ _ _ e => per _ _ (at_split e), rfl⟩
theorem LeastT.atI {E : List Nat → α} {ms : List Nat} (L : LeastT E ms) {i m : Nat} (h : ms[i]? = some m) : 0 < m ∧ PdC E ms.length i m ∧ ∀ q, 0 < q → PdC E ms.length i q → m ∣ q := by
  obtain ⟨e, l⟩ := split_at h
  have := L.least _ _ _ e
  rwa [l] at this
theorem least_of {E : List Nat → α} {ms : List Nat} (h : ∀ i m, ms[i]? = some m → 0 < m ∧ PdC E ms.length i m ∧ ∀ q, 0 < q → PdC E ms.length i q → m ∣ q) : LeastT E ms :=
  ⟨fun _ _ _ e => h _ _ (at_split e)⟩
theorem zip_tab {β γ : Type} (f : α → β → γ) : ∀ {ms : List Nat} (F : List Nat → α) (G : List Nat → β), List.zipWith f (tab ms F) (tab ms G) = tab ms fun r => f (F r) (G r) := fun {ms} F G => by
  refine List.ext_getElem? fun i => ?_
  by_cases hi : i < vol ms
  · obtain ⟨r, hr, rfl⟩ := plc_sur hi
    rw [List.getElem?_zipWith, tab_at hr, tab_at hr, tab_at hr]
  · rw [List.getElem?_eq_none (by rw [List.length_zipWith, tab_len, tab_len]; omega), List.getElem?_eq_none (by rw [tab_len]; omega)]
end FM
namespace K09
open PySem L2 DL PySem.HouseX CM
theorem nl_snoc (L : List Nat) (x : Nat) {z : Int} (h : z = (x : Int)) : NL L ++ [V.int z] = NL (L ++ [x]) := by
  unfold NL
  rw [List.map_append, h]
  rfl
theorem tupN {K : PySem.W.Frag} {H : Hp} {a : Addr} {ms : List Nat} (h : SqT K H a (NL ms)) : Dp K H (.ref a) (.tuple ((ms.map fun n : Nat => (n : Int)).map PyData.int)) := .tup (by rw [← nl_il] at h; exact h) (dp_il _)
theorem nats_inj {ms ns : List Nat} (h : (ms.map fun n : Nat => (n : Int)).map PyData.int = (ns.map fun n : Nat => (n : Int)).map PyData.int) : ms = ns := by
  have e := ints_inj h
  exact (List.map_inj_right (fun a b h => by omega)).mp e
theorem shaped_tupI (ns : List Int) : SeqAt.shaped (.tuple (ns.map PyData.int)) = true := by
  have h1 : (PyData.tuple (ns.map PyData.int)).depth ≤ 64 := by
    have := (lay_il ns).2
    simp only [PyData.depth]
    omega
  have h2 : (PyData.tuple (ns.map PyData.int)).canLay0 = true := lay_intD (intD_ints ns)
  unfold SeqAt.shaped
  rw [h2, decide_eq_true h1]
  rfl
theorem tab_id_told {ms : List Nat} {ds : List PyData} {dd : PyData} (l : ds.length = FM.vol ms) : FM.tab ms (FM.told ms ds dd) = ds := by
  conv => rhs; rw [← FM.tab_of l dd]
  exact FM.tab_ext fun r hr => by unfold FM.told; rw [FM.modl_id hr]
def stD (s : List Int) : PyData := .list (s.map PyData.int)
theorem own_st {H : Hp} {v : V} {s : List Int} {bs : List Addr} (h : Own H (stD s) v bs) : ∃ a, v = .ref a ∧ H a = some (.lst (IL s)) ∧ bs = [a] := by
  obtain ⟨a, xs, cs, rfl, ha, ho, rfl⟩ := h
  obtain ⟨rfl, rfl⟩ := ints_own ho
  exact ⟨a, rfl, ha, rfl⟩
theorem st_own {H : Hp} {p : Addr} {s : List Int} (h : H p = some (.lst (IL s))) : Own H (stD s) (.ref p) [p] := ⟨p, _, [], rfl, h, own_ints _, rfl⟩
theorem il_snoc (s : List Int) (y : Int) : IL s ++ [V.int y] = IL (s ++ [y]) := by
  unfold IL
  rw [List.map_append]
  rfl
theorem form_depth (ms : List Nat) (ps : List (List Line)) : (formD ms ps).depth ≤ 5 := by
  have h : PyData.depthAll (ps.map pieceD) ≤ 3 := depthAll_le.mpr fun d hd => by
    obtain ⟨rs, _, rfl⟩ := List.mem_map.mp hd
    exact piece_depth rs
  have g := (lay_il (ms.map fun m : Nat => (m : Int))).2
  simp only [formD, PyData.depth, PyData.depthAll]
  omega
theorem intD_form (ms : List Nat) (ps : List (List Line)) : IntD (formD ms ps) := ⟨intD_ints _, by
  show IntDs _
  exact intDs_iff.mpr fun d hd => by
    obtain ⟨rs, _, rfl⟩ := List.mem_map.mp hd
    exact intD_piece rs, trivial⟩
theorem shaped_form (ms : List Nat) (ps : List (List Line)) : SeqAt.shaped (formD ms ps) = true := by
  have h1 : (formD ms ps).depth ≤ 64 := Nat.le_trans (form_depth ms ps) (by decide)
  have h2 : (formD ms ps).canLay0 = true := lay_intD (intD_form ms ps)
  unfold SeqAt.shaped
  rw [h2, decide_eq_true h1]
  rfl
theorem least_congr {F G : List Nat → List Line} {ls : List Nat} (h : ∀ s, s.length = ls.length → F s = G s) (L : FM.LeastT F ls) : FM.LeastT G ls := by
  have pd : ∀ {i q : Nat}, i < ls.length → (FM.PdC F ls.length i q ↔ FM.PdC G ls.length i q) := fun {i q} hi => by
    constructor
    · intro P r1 a r2 h1 h2
      rw [← h _ (by rw [List.length_append, List.length_cons]; omega), ← h _ (by rw [List.length_append, List.length_cons]; omega)]
      exact P r1 a r2 h1 h2
    · intro P r1 a r2 h1 h2
      rw [h _ (by rw [List.length_append, List.length_cons]; omega), h _ (by rw [List.length_append, List.length_cons]; omega)]
      exact P r1 a r2 h1 h2
  refine FM.least_of fun i m hm => ?_
  have il := (List.getElem?_eq_some_iff.mp hm).1
  obtain ⟨m0, P, lst⟩ := L.atI hm
  exact ⟨m0, (pd il).mp P, fun q hq Pq => lst q hq ((pd il).mpr Pq)⟩
end K09

set_option Elab.async false
set_option linter.all false
set_option maxRecDepth 100000
set_option maxHeartbeats 4000000
set_option exponentiation.threshold 5000
namespace K09
open PySem L2 DL PySem.HouseX CM
def WidC (n c : Nat) (rs : List Line) : Prop := Wid n rs ∧ rs.length = c
def spIsPiece (K : PySem.W.Frag) : Sp := fun vs H Q _ => ∃ (v : V) (n c : Nat) (rs : List Line), vs = [v, .int n, .int c] ∧ Dp K H v (pieceD rs) ∧ WidC n c rs ∧ c ≤ 100 ∧ ∀ H', Same H H' → Q (.bl true) H'
def spIsForm (K : PySem.W.Frag) : Sp := fun vs H Q _ => ∃ (v : V) (n c : Nat) (ms : List Nat) (ps : List (List Line)), vs = [v, .int n, .int c] ∧ Dp K H v (formD ms ps) ∧ ms.length = n ∧ 0 < n ∧ (∀ m ∈ ms, 0 < m) ∧ ps.length = FM.vol ms ∧ FM.vol ms < 1000000 ∧ (∀ rs ∈ ps, WidC n c rs) ∧ c ≤ 100 ∧ ∀ H', Same H H' → Q (.bl true) H'
structure TxtG29 (mg : Str → Option Value) (fP fQ : Addr) : Prop where
  len : mg "len" = none
  all : mg "all" = none
  min : mg "min" = none
  gP : mg "is_piece" = some (.ref fP)
  gQ : mg "product_of" = some (.ref fQ)
section
variable {P : Program} {w : World} {K : PySem.W.Frag} {mg : Str → Option Value} {base : Heap}
def rLenS (K : PySem.W.Frag) : List V → Hp → VK → Prop := fun xs H Q => ∃ p ys, xs = [.ref p] ∧ (SqL K H p ys ∨ SqT K H p ys) ∧ Q (.int (ys.length : Nat)) H
theorem scIsPiece : FnScope ["piece", "accounts", "results", "matrix", "amounts", "row"] ["piece", "accounts", "results"] (defScope sIsPiece) := ⟨rfl, rfl, rfl, by decide +kernel, rfl, by decide +kernel, by decide +kernel⟩
theorem ok_ispiece {f fP fQ : Addr} {fd : FuncData} (F : Fun K "is_piece" "is_piece" sIsPiece f fd) (T : TxtG29 mg fP fQ) : FnOk P w K mg base CX0 1 f fd ["piece", "accounts", "results"] (spIsPiece K) := by
  have nd := scIsPiece.nd
  refine F.ok scIsPiece (fun vs H Q E h => ?_) (fun cdv A outer s H vs Q E hr h => ?_)
  · obtain ⟨_, _, _, _, rfl, _⟩ := h
    rfl
  · obtain ⟨v, n, c, rs, rfl, hv, wid, c1, q⟩ := h
    refine ⟨_, pss_cons (ps_if (pt_cmpR op_ne (pe_callB call_len_seq (by rfl) T.len PySem.boot_len (pa_cons (pv 0) pa_nil)) pe_int (nomark _)) (pss_one (ps_ret pe_bl)) pss_nil)
      (pss_cons (ps_asg (pv 0) (pg_tup rfl (pgs_cons (pg_name (i := 3) nd rfl (Or.inl rfl)) (pgs_cons (pg_name (i := 4) nd rfl (Or.inl rfl)) pgs_nil))))
      (pss_one (ps_ret (pe_and (pe_chain op_eq op_eq (pe_callB call_len_seq (by rfl) T.len PySem.boot_len (pa_cons (pv 3) pa_nil)) (pv 2) (pe_callB call_len_seq (by rfl) T.len PySem.boot_len (pa_cons (pv 4) pa_nil)))
        (pe_one (pe_callB (cr_all rfl) (by rfl) T.all (by decide +kernel) (pa_cons (pe_lc (own := [("row", 5)]) (g := gName 5) rfl nd (pi_list (pv 3))
          (blkOk_by (N := ["piece", "accounts", "results", "matrix", "amounts", "row"]) (sc := defScope sIsPiece) (by decide +kernel)) (fun _ _ _ _ _ => pg_name (i := 5) nd rfl (Or.inl rfl)) (fun _ _ _ _ _ => pts_nil)
          (fun _ _ _ _ _ => pe_cmpR op_eq (pe_callB (show CallR _ (.builtin "len") (rLenS K) from call_len_seq) (by rfl) T.len PySem.boot_len (pa_cons (pv 5) pa_nil)) (pv 1) (nomark _))) pa_nil))))))), ?_⟩
    obtain ⟨t, m, k, xs, rfl, h1, h2, h3, h4⟩ := dp_piece hv
    have xl : xs.length = rs.length := by have := dpAll_len h3; rwa [List.length_map] at this
    have lk : (IL (rs.map (·.am))).length = rs.length := by unfold IL; rw [List.length_map, List.length_map]
    refine ⟨_, rfl, t, _, rfl, .inr h1, rfl, _, rfl, iteF ?_⟩
    refine ⟨_, rfl, t, _, rfl, h1, rfl, _, _, rfl, _, _, rfl, rfl, ?_⟩
    refine ⟨_, rfl, m, _, rfl, .inl h2, ?_⟩
    rw [xl, wid.2]
    refine ⟨_, rfl, rfl, _, rfl, ite2 (fun _ => ?_) (fun h => absurd (decide_eq_true rfl) h)⟩
    refine ⟨_, rfl, k, _, rfl, .inl h4, ?_⟩
    rw [lk, wid.2]
    refine ⟨rfl, _, rfl, ite2 (fun _ => ?_) (fun h => absurd (decide_eq_true rfl) h)⟩
    refine ⟨_, rfl, m, rfl, ⟨_, h2⟩, fun D hD => ?_⟩
    refine lc_list (K := K) (a := m) (xs := xs) (Made H D (fun _ => true) (fun _ => V.bl true)) (Made.start hD) (fun j H' _ M => M.same.seq h2) ?_ ?_
    · rintro j x H1 hx M
      obtain ⟨d, hd1, hd2⟩ := dpAll_get h3 hx
      rw [List.getElem?_map] at hd1
      obtain ⟨L, eL, rfl⟩ := Option.map_eq_some_iff.mp hd1
      obtain ⟨la, rfl, sL⟩ := dp_ints hd2
      have jl := (List.getElem?_eq_some_iff.mp eL).1
      have ll : (IL L.is).length = n := by unfold IL; rw [List.length_map, wid.1 L (List.mem_of_getElem? eL)]
      have w2 := wid.2
      refine ⟨rfl, _, rfl, la, _, rfl, .inl (M.same.seq sL), ?_⟩
      rw [ll]
      refine ⟨_, rfl, rfl, ?_⟩
      have := M.yes hD (Same.refl _) rfl (by omega)
      rw [show decide (V.int (n : Nat) = V.int (n : Nat)) = true from decide_eq_true rfl]
      exact this
    · intro H1 M
      refine ⟨D, List.replicate xs.length true, rfl, SqL.of ?_, ?_⟩
      · rw [M.at_, made_all, List.map_replicate]
        refine congrArg (fun l => some (HO.lst l)) ?_
        rw [List.map_const', List.length_range]
      · have e : (List.replicate xs.length true).all id = true := by
          rw [List.all_eq_true]
          intro x hx
          rw [List.eq_of_mem_replicate hx]
          rfl
        rw [e]
        exact q H1 M.same
theorem scIsForm : FnScope ["form", "accounts", "results", "moduli", "pieces", "piece"] ["form", "accounts", "results"] (defScope sIsForm) := ⟨rfl, rfl, rfl, by decide +kernel, rfl, by decide +kernel, by decide +kernel⟩
theorem ok_isform {f fP fQ : Addr} {fd fdP fdQ : FuncData} (F : Fun K "is_form" "is_form" sIsForm f fd) (T : TxtG29 mg fP fQ)
    (GP : FnOk P w K mg base CX0 1 fP fdP ["piece", "accounts", "results"] (spIsPiece K)) (kP : PySem.W.keepIn K (.ref fP) = true) (bP : Binds K fdP ["piece", "accounts", "results"] [])
    (GQ : FnOk P w K mg base CX0 1 fQ fdQ ["numbers"] (spProd K)) (kQ : PySem.W.keepIn K (.ref fQ) = true) (bQ : Binds K fdQ ["numbers"] []) : FnOk P w K mg base CX0 2 f fd ["form", "accounts", "results"] (spIsForm K) := by
  have nd := scIsForm.nd
  refine F.ok scIsForm (fun vs H Q E h => ?_) (fun cdv A outer s H vs Q E hr h => ?_)
  · obtain ⟨_, _, _, _, _, rfl, _⟩ := h
    rfl
  · obtain ⟨v, n, c, ms, ps, rfl, hv, ml, n0, pos, pl, few, wid, c1, q⟩ := h
    refine ⟨_, pss_cons (ps_if (PW.pt (pw_or (pt_cmpR op_ne (pe_callB call_len_seq (by rfl) T.len PySem.boot_len (pa_cons (pv 0) pa_nil)) pe_int (nomark _))
        (pw_or (pt_cmpR op_ne (pe_callB call_len_seq (by rfl) T.len PySem.boot_len (pa_cons (pe_ix ix_tup (pv 0) pe_int (fun _ _ => rfl)) pa_nil)) (pv 1) (nomark _))
        (pw_or1 (pt_cmpR op_lt (pe_callBK (ck_minDef rfl hr.units) (by rfl) T.min (by decide +kernel) (pa_cons (pe_ix ix_tup (pv 0) pe_int (fun _ _ => rfl)) pa_nil) (pk_cons pe_int pk_nil)) pe_int (nomark _)))))) (pss_one (ps_ret pe_bl)) pss_nil)
      (pss_cons (ps_asg (pv 0) (pg_tup rfl (pgs_cons (pg_name (i := 3) nd rfl (Or.inl rfl)) (pgs_cons (pg_name (i := 4) nd rfl (Or.inl rfl)) pgs_nil))))
      (pss_one (ps_ret (pe_and (pe_cmpR op_eq (pe_callB call_len_seq (by rfl) T.len PySem.boot_len (pa_cons (pv 4) pa_nil)) (pe_call GQ hr rfl T.gQ kQ bQ .nil pass0 (pa_cons (pv 3) pa_nil)) (nomark _))
        (pe_one (pe_callB (cr_all rfl) (by rfl) T.all (by decide +kernel) (pa_cons (pe_lc (own := [("piece", 5)]) (g := gName 5) rfl nd (pi_list (pv 4))
          (blkOk_by (N := ["form", "accounts", "results", "moduli", "pieces", "piece"]) (sc := defScope sIsForm) (by decide +kernel)) (fun _ _ _ _ _ => pg_name (i := 5) nd rfl (Or.inl rfl)) (fun _ _ _ _ _ => pts_nil)
          (fun _ _ _ _ _ => pe_call GP hr rfl T.gP kP bP .nil pass0 (pa_cons (pv 5) (pa_cons (pv 1) (pa_cons (pv 2) pa_nil))))) pa_nil))))))), ?_⟩
    obtain ⟨t, a, b, xs, rfl, h1, h2, h3, h4⟩ := dp_form hv
    have xl : xs.length = ps.length := by have := dpAll_len h4; rwa [List.length_map] at this
    have nl : (NL ms).length = n := by unfold NL; rw [List.length_map, ml]
    refine ⟨_, rfl, t, _, rfl, .inr h1, rfl, _, rfl, iteF ?_⟩
    refine ⟨_, rfl, t, _, _, .ref a, rfl, rfl, h1, rfl, a, _, rfl, .inl h2, ?_⟩
    rw [nl]
    refine ⟨_, rfl, rfl, _, rfl, ite2 (fun h => absurd h (by simp)) (fun _ => ?_)⟩
    have h2' : SqL K H a ((ms.map fun n : Nat => (n : Int)).map V.int) := by rw [← nl_il] at h2; exact h2
    refine ⟨_, rfl, t, _, _, .ref a, rfl, rfl, h1, rfl, a, _, _, rfl, rfl, h2', by rw [List.length_map]; omega, fun m hm _ => ?_⟩
    obtain ⟨m', hm', rfl⟩ := List.mem_map.mp hm
    have m0 := pos m' hm'
    refine ⟨_, _, rfl, rfl, _, rfl, ite2 (fun h => ?_) (fun _ => ?_)⟩
    · have := of_decide_eq_true h
      omega
    refine ⟨_, rfl, t, _, rfl, h1, rfl, _, _, rfl, _, _, rfl, rfl, ?_⟩
    refine ⟨_, rfl, b, _, rfl, .inl h3, _, rfl, a, ms, rfl, h2, pos, few, ?_⟩
    rw [xl, pl]
    refine ⟨rfl, _, rfl, ite2 (fun _ => ?_) (fun h => absurd (decide_eq_true rfl) h)⟩
    refine ⟨_, rfl, b, rfl, ⟨_, h3⟩, fun D hD => ?_⟩
    refine lc_list (K := K) (a := b) (xs := xs) (Made H D (fun _ => true) (fun _ => V.bl true)) (Made.start hD) (fun j H' _ M => M.same.seq h3) ?_ ?_
    · rintro j x H1 hx M
      obtain ⟨d, hd1, hd2⟩ := dpAll_get h4 hx
      rw [List.getElem?_map] at hd1
      obtain ⟨rs, eL, rfl⟩ := Option.map_eq_some_iff.mp hd1
      have jl := (List.getElem?_eq_some_iff.mp eL).1
      exact ⟨rfl, _, rfl, _, rfl, _, rfl, x, n, c, rs, rfl, dp_same M.same hd2, wid rs (List.mem_of_getElem? eL), c1, fun H2 sm => M.yes hD sm rfl (by omega)⟩
    · intro H1 M
      refine ⟨D, List.replicate xs.length true, rfl, SqL.of ?_, ?_⟩
      · rw [M.at_, made_all, List.map_replicate]
        refine congrArg (fun l => some (HO.lst l)) ?_
        rw [List.map_const', List.length_range]
      · have e : (List.replicate xs.length true).all id = true := by
          rw [List.all_eq_true]
          intro x hx
          rw [List.eq_of_mem_replicate hx]
          rfl
        rw [e]
        exact q H1 M.same
end
end K09

set_option Elab.async false
set_option linter.all false
set_option maxRecDepth 100000
set_option maxHeartbeats 4000000
set_option exponentiation.threshold 5000
namespace K09
open PySem L2 DL PySem.HouseX CM
/-- a right form of n accounts and c results, of few pieces and small numbers -/
structure FK (n c : Nat) (ms : List Nat) (ps : List (List Line)) : Prop where
  n0 : 0 < n
  n4 : n ≤ 4
  c0 : 0 < c
  c4 : c ≤ 4
  len : ms.length = n
  pos : ∀ m ∈ ms, 0 < m
  pl : ps.length = FM.vol ms
  vol : FM.vol ms ≤ 600
  wid : ∀ rs ∈ ps, WidC n c rs
  sml : ∀ rs ∈ ps, ∀ r ∈ rs, ∀ x ∈ r.is, x.natAbs ≤ 100
  ams : ∀ rs ∈ ps, ∀ r ∈ rs, r.am.natAbs ≤ 100
theorem FK.mem {n c : Nat} {ms : List Nat} {ps : List (List Line)} (F : FK n c ms ps) {s : List Nat} (h : s.length = n) : formF ms ps s ∈ ps := by
  have lt := FM.plc_lt (FM.modl_rest F.pos (h.trans F.len.symm))
  unfold formF FM.told
  rw [List.getD_eq_getElem?_getD, List.getElem?_eq_getElem (by rw [F.pl]; exact lt)]
  exact List.getElem_mem _
theorem FK.cons {n c : Nat} {ms : List Nat} {ps : List (List Line)} (F : FK n c ms ps) : ∃ rs qs, ps = rs :: qs := by
  have := FM.vol_pos F.pos
  cases ps with
  | nil => have := F.pl; simp at this; omega
  | cons rs qs => exact ⟨rs, qs, rfl⟩
theorem FK.piece {n c : Nat} {ms : List Nat} {ps : List (List Line)} (F : FK n c ms ps) : ∀ rs ∈ ps, PieceOk rs := fun rs hrs => by
  obtain ⟨w1, w2⟩ := F.wid rs hrs
  have := F.c4
  have := F.n4
  have := F.n0
  refine ⟨by omega, fun r hr => ⟨fun z => ?_, by rw [w1 r hr]; omega⟩⟩
  have := w1 r hr
  rw [z] at this
  simp at this
  omega
/-- told by other moduli -/
theorem FK.tab {n c : Nat} {ms ns : List Nat} {ps : List (List Line)} (F : FK n c ms ps) (l : ns.length = n) (p : ∀ m ∈ ns, 0 < m) (v : FM.vol ns ≤ 600) : FK n c ns (FM.tab ns (formF ms ps)) := by
  have inn : ∀ rs ∈ FM.tab ns (formF ms ps), rs ∈ ps := fun rs hrs => by
    obtain ⟨i, hi⟩ := List.mem_iff_getElem?.mp hrs
    have il := (List.getElem?_eq_some_iff.mp hi).1
    rw [FM.tab_len] at il
    obtain ⟨r, R, e⟩ := FM.plc_sur il
    rw [← e, FM.tab_at R] at hi
    rw [← Option.some.inj hi]
    exact F.mem ((FM.rest_len R).trans l)
  exact ⟨F.n0, F.n4, F.c0, F.c4, l, p, FM.tab_len _ _, v, fun rs h => F.wid rs (inn rs h), fun rs h => F.sml rs (inn rs h), fun rs h => F.ams rs (inn rs h)⟩
theorem vol_parts : ∀ {ls ms : List Nat}, ls.length = ms.length → (∀ m ∈ ms, 0 < m) → (∀ (i : Nat) (l m : Nat), ls[i]? = some l → ms[i]? = some m → l ∣ m) → FM.vol ls ≤ FM.vol ms
  | [], [], _, _, _ => Nat.le_refl _
  | l :: ls, m :: ms, h, p, d => by
    have ih := vol_parts (ls := ls) (ms := ms) (Nat.succ.inj h) (fun x hx => p x (List.mem_cons_of_mem _ hx)) fun i a b ha hb => d (i + 1) a b ha hb
    exact Nat.mul_le_mul (Nat.le_of_dvd (p m List.mem_cons_self) (d 0 l m rfl rfl)) ih
  | [], _ :: _, h, _, _ => nomatch h
  | _ :: _, [], h, _, _ => nomatch h
theorem vol_dvd {as bs : List Nat} (pos : ∀ b ∈ bs, 0 < b) (l : as.length = bs.length) (h : ∀ i a b : Nat, as[i]? = some a → bs[i]? = some b → a ∣ b) : FM.vol as ≤ FM.vol bs := vol_parts l pos h
/-- the least moduli are parts of the told ones -/
theorem FK.least {n c : Nat} {ms ls : List Nat} {ps : List (List Line)} (F : FK n c ms ps) (L : FM.LeastT (formF ms ps) ls) (ll : ls.length = ms.length) : (∀ m ∈ ls, 0 < m) ∧ FM.vol ls ≤ FM.vol ms := by
  refine ⟨fun m hm => ?_, vol_parts ll F.pos fun i l m hl hm => ?_⟩
  · obtain ⟨i, hi, e⟩ := List.mem_iff_getElem.mp hm
    have em : ls[i]? = some m := by rw [List.getElem?_eq_getElem hi, e]
    exact (L.atI em).1
  · have q1 := (L.atI hl).2.2 _ (F.pos _ (List.mem_of_getElem? hm))
    rw [ll] at q1
    exact q1 ((FM.told_told F.pos F.pl).perI hm)
def spCheckF (K : PySem.W.Frag) : Sp := fun vs H Q _ => ∃ (v : V) (n c : Nat) (ms : List Nat) (ps : List (List Line)), vs = [v] ∧ Dp K H v (formD ms ps) ∧ FK n c ms ps ∧ ∀ H', Same H H' → Q .non H'
def spCheckB (K : PySem.W.Frag) : Sp := fun vs H Q _ => ∃ (v u : V) (n c : Nat) (ms ns : List Nat) (ps qs : List (List Line)), vs = [v, u] ∧ Dp K H v (formD ms ps) ∧ Dp K H u (formD ns qs) ∧ FK n c ms ps ∧ FK n c ns qs ∧ ∀ H', Same H H' → Q .non H'
structure TxtNB (mg : Str → Option Value) (fA fR fI fC fB : Addr) : Prop where
  gA : mg "accounts_in_form" = some (.ref fA)
  gR : mg "results_in_form" = some (.ref fR)
  gI : mg "is_form" = some (.ref fI)
  gC : mg "check_form" = some (.ref fC)
  gB : mg "check_both" = some (.ref fB)
section
variable {P : Program} {w : World} {K : PySem.W.Frag} {mg : Str → Option Value} {base : Heap}
theorem scCheckF : FnScope ["form", "results"] ["form"] (defScope sCheckF) := ⟨rfl, rfl, rfl, by decide +kernel, rfl, by decide +kernel, by decide +kernel⟩
theorem ok_checkf {f fA fR fI fC fB : Addr} {fd fdA fdR fdI : FuncData} (F : Fun K "check_form" "check_form" sCheckF f fd) (T : TxtNB mg fA fR fI fC fB)
    (GA : FnOk P w K mg base CX0 1 fA fdA ["form"] (spAccIn K)) (kA : PySem.W.keepIn K (.ref fA) = true) (bA : Binds K fdA ["form"] [])
    (GR : FnOk P w K mg base CX0 1 fR fdR ["form"] (spResIn K)) (kR : PySem.W.keepIn K (.ref fR) = true) (bR : Binds K fdR ["form"] [])
    (GI : FnOk P w K mg base CX0 2 fI fdI ["form", "accounts", "results"] (spIsForm K)) (kI : PySem.W.keepIn K (.ref fI) = true) (bI : Binds K fdI ["form", "accounts", "results"] []) : FnOk P w K mg base CX0 3 f fd ["form"] (spCheckF K) := by
  have nd := scCheckF.nd
  refine F.ok scCheckF (fun vs H Q E h => ?_) (fun cdv A outer s H vs Q E hr h => ?_)
  · obtain ⟨_, _, _, _, _, rfl, _⟩ := h
    rfl
  · obtain ⟨v, n, c, ms, ps, rfl, hv, O, q⟩ := h
    have hr1 : Room 1 _ := hr.mono (by decide)
    refine ⟨_, pss_cons (ps_set (i := 1) nd rfl (Or.inl rfl) (pe_call GR hr1 rfl T.gR kR bR .nil pass0 (pa_cons (pv 0) pa_nil)))
      (pss_one (ps_if (PW.pt (pw_or (pt_cmpR op_eq (pv 1) pe_int (nomark _)) (pw_or1 (pt_not (pt_val (pe_call GI hr rfl T.gI kI bI .nil pass0 (pa_cons (pv 0) (pa_cons (pe_call GA hr1 rfl T.gA kA bA .nil pass0 (pa_cons (pv 0) pa_nil)) (pa_cons (pv 1) pa_nil))))))))) (pss_one ps_never) pss_nil)), ?_⟩
    obtain ⟨rs, qs, rfl⟩ := O.cons
    have wc := (O.wid rs List.mem_cons_self).2
    have c0 := O.c0
    have c4 := O.c4
    have vv := O.vol
    refine ⟨_, rfl, v, ms, rs, qs, rfl, hv, ?_⟩
    rw [wc]
    refine ⟨_, rfl, rfl, _, rfl, ite2 (fun h => ?_) (fun _ => ?_)⟩
    · have := V.int.inj (of_decide_eq_true h)
      omega
    refine ⟨_, rfl, _, rfl, v, ms, _, rfl, hv, _, rfl, v, ms.length, c, ms, _, rfl, hv, rfl, by rw [O.len]; exact O.n0, O.pos, O.pl, by omega, fun r hr => by rw [O.len]; exact O.wid r hr, by omega, fun H' sm => ?_⟩
    exact ⟨_, rfl, iteF (q H' sm)⟩
theorem scCheckB : FnScope ["one", "other"] ["one", "other"] (defScope sCheckB) := ⟨rfl, rfl, rfl, by decide +kernel, rfl, by decide +kernel, by decide +kernel⟩
theorem ok_checkb {f fA fR fI fC fB : Addr} {fd fdA fdR fdC : FuncData} (F : Fun K "check_both" "check_both" sCheckB f fd) (T : TxtNB mg fA fR fI fC fB)
    (GA : FnOk P w K mg base CX0 1 fA fdA ["form"] (spAccIn K)) (kA : PySem.W.keepIn K (.ref fA) = true) (bA : Binds K fdA ["form"] [])
    (GR : FnOk P w K mg base CX0 1 fR fdR ["form"] (spResIn K)) (kR : PySem.W.keepIn K (.ref fR) = true) (bR : Binds K fdR ["form"] [])
    (GC : FnOk P w K mg base CX0 3 fC fdC ["form"] (spCheckF K)) (kC : PySem.W.keepIn K (.ref fC) = true) (bC : Binds K fdC ["form"] []) : FnOk P w K mg base CX0 4 f fd ["one", "other"] (spCheckB K) := by
  have nd := scCheckB.nd
  refine F.ok scCheckB (fun vs H Q E h => ?_) (fun cdv A outer s H vs Q E hr h => ?_)
  · obtain ⟨_, _, _, _, _, _, _, _, rfl, _⟩ := h
    rfl
  · obtain ⟨v, u, n, c, ms, ns, ps, qs, rfl, hv, hu, O1, O2, q⟩ := h
    have hr1 : Room 1 _ := hr.mono (by decide)
    refine ⟨_, pss_cons (ps_expr (pe_call GC hr rfl T.gC kC bC .nil pass0 (pa_cons (pv 0) pa_nil))) (pss_cons (ps_expr (pe_call GC hr rfl T.gC kC bC .nil pass0 (pa_cons (pv 1) pa_nil)))
      (pss_one (ps_if (pt_cmpR (op_neD hr.units) (pe_tup (pa_cons (pe_call GA hr1 rfl T.gA kA bA .nil pass0 (pa_cons (pv 0) pa_nil)) (pa_cons (pe_call GR hr1 rfl T.gR kR bR .nil pass0 (pa_cons (pv 0) pa_nil)) pa_nil)))
        (pe_tup (pa_cons (pe_call GA hr1 rfl T.gA kA bA .nil pass0 (pa_cons (pv 1) pa_nil)) (pa_cons (pe_call GR hr1 rfl T.gR kR bR .nil pass0 (pa_cons (pv 1) pa_nil)) pa_nil))) (nomark _)) (pss_one ps_never) pss_nil))), ?_⟩
    obtain ⟨rs, ps', rfl⟩ := O1.cons
    obtain ⟨ss, qs', rfl⟩ := O2.cons
    have w1 := (O1.wid rs List.mem_cons_self).2
    have w2 := (O2.wid ss List.mem_cons_self).2
    refine ⟨_, rfl, v, n, c, ms, _, rfl, hv, O1, fun H1 sm1 => ?_⟩
    refine ⟨_, rfl, u, n, c, ns, _, rfl, dp_same sm1 hu, O2, fun H2 sm2 => ?_⟩
    have k2 := sm1.trans sm2
    refine ⟨_, rfl, v, ms, _, rfl, dp_same k2 hv, _, rfl, v, ms, rs, ps', rfl, dp_same k2 hv, (by show 2 ≤ sizeLine; decide), fun t1 ht1 => ?_⟩
    have z1 := same_new (o := .tup [V.int (ms.length : Nat), V.int (rs.length : Nat)]) ht1
    refine ⟨_, rfl, u, ns, _, rfl, dp_same (k2.trans z1) hu, _, rfl, u, ns, ss, qs', rfl, dp_same (k2.trans z1) hu, (by show 2 ≤ sizeLine; decide), fun t2 ht2 => ?_⟩
    have z2 := same_new (o := .tup [V.int (ns.length : Nat), V.int (ss.length : Nat)]) ht2
    refine ⟨.tuple (([(ms.length : Int), (rs.length : Int)]).map PyData.int), .tuple (([(ns.length : Int), (ss.length : Int)]).map PyData.int), .tup (SqT.of (z2 _ _ upd_same)) (dp_il [_, _]), .tup (SqT.of upd_same) (dp_il [_, _]), shaped_tupI _, shaped_tupI _, _, rfl, ?_⟩
    have kk := (k2.trans z1).trans z2
    rw [O1.len, O2.len, w1, w2] at kk
    rw [O1.len, O2.len, w1, w2]
    have e : PyData.eqv (.tuple (([(n : Int), (c : Int)]).map PyData.int)) (.tuple (([(n : Int), (c : Int)]).map PyData.int)) = true := (eqv_intD (show IntD (.tuple _) from intD_ints _) (show IntD (.tuple _) from intD_ints _)).mpr rfl
    rw [e]
    exact iteF (q _ kk)
end
end K09

set_option Elab.async false
set_option linter.all false
set_option maxRecDepth 100000
set_option maxHeartbeats 4000000
set_option exponentiation.threshold 5000
namespace K09
open PySem L2 DL PySem.HouseX CM
theorem SackAt.has {H : Hp} {p : Addr} {n : Nat} (h : SackAt H p n) : ∃ o, H p = some o := by
  obtain ⟨a, b, c, e, r⟩ := h
  exact ⟨_, e⟩
theorem SackAt.put {H : Hp} {p q : Addr} {n : Nat} {o : HO} (h : SackAt H p n) (k : p ≠ q) : SackAt (upd H q o) p n := by
  obtain ⟨a, b, c, e, r⟩ := h
  exact ⟨a, b, c, (upd_ne k).trans e, r⟩
theorem SackAt.same {H H' : Hp} {p : Addr} {n : Nat} (h : SackAt H p n) (k : Same H H') : SackAt H' p n := by
  obtain ⟨a, b, c, e, r⟩ := h
  exact ⟨a, b, c, k _ _ e, r⟩
/-! ### all but the sack stays -/
def Fr (p : Addr) (H H' : Hp) : Prop := ∀ b, b ≠ p → ∀ o, H b = some o → H' b = some o
theorem Fr.refl {p : Addr} {H : Hp} : Fr p H H := fun _ _ _ e => e
theorem Fr.trans {p : Addr} {H H' H2 : Hp} (a : Fr p H H') (b : Fr p H' H2) : Fr p H H2 := fun x hx o e => b x hx o (a x hx o e)
theorem Fr.of_same {p : Addr} {H H' : Hp} (k : Same H H') : Fr p H H' := fun b _ o e => k b o e
theorem Fr.of_eq {p : Addr} {H H' : Hp} (k : ∀ b, b ≠ p → H' b = H b) : Fr p H H' := fun b hb o e => (k b hb).trans e
theorem Fr.put {p a : Addr} {H H' : Hp} {o : HO} (k : Fr p H H') (ha : H' a = none) : Fr p H (upd H' a o) := k.trans (Fr.of_same (same_new ha))
theorem SackAt.ne {H : Hp} {p a : Addr} {n : Nat} (h : SackAt H p n) (ha : H a = none) : p ≠ a := by
  obtain ⟨o, z⟩ := h.has
  exact ne_of_none z ha
theorem Fr.back {p a : Addr} {H H' : Hp} {n : Nat} (k : Fr p H H') (h : SackAt H' p n) (ha : H' a = none) : H a = none := by
  cases e : H a with
  | none => rfl
  | some o =>
    have q := k a (Ne.symm (h.ne ha)) o e
    rw [ha] at q
    cases q
theorem Fr.backs {p : Addr} {H H' : Hp} {n : Nat} {as : List Addr} (k : Fr p H H') (h : SackAt H' p n) (nw : New H' as) : New H as := fun b hb => k.back h (nw b hb)
theorem SackAt.out {H : Hp} {p : Addr} {n : Nat} {as : List Addr} (h : SackAt H p n) (nw : New H as) : p ∉ as := fun z => (h.ne (nw p z)) rfl
theorem _root_.DL.Own.fr {H H' : Hp} {p : Addr} {d : PyData} {v : V} {as : List Addr} (h : Own H d v as) (hp : p ∉ as) (k : Fr p H H') : Own H' d v as := h.frame fun b hb o e => k b (fun z => hp (z ▸ hb)) o e
theorem _root_.DL.OwnAll.fr {H H' : Hp} {p : Addr} {d : List PyData} {v : List V} {as : List Addr} (h : OwnAll H d v as) (hp : p ∉ as) (k : Fr p H H') : OwnAll H' d v as := h.frame fun b hb o e => k b (fun z => hp (z ▸ hb)) o e
/-- places of which none is among others that were new behind them -/
theorem New.apart {H H' : Hp} {d : PyData} {v : V} {as bs : List Addr} (h : Own H d v as) (nw : New H bs) (na : as.Nodup) (nb : bs.Nodup) : (as ++ bs).Nodup :=
  List.nodup_append.mpr ⟨na, nb, fun a ha b hb e => by
    subst e
    obtain ⟨o, z⟩ := h.has a ha
    rw [nw a hb] at z
    cases z⟩
theorem own_tupF {H : Hp} {p : Addr} {ds : List PyData} {vs : List V} {cs : List Addr} (hp : H p = none) (h : OwnAll H ds vs cs) (nd : cs.Nodup) : Own (upd H p (.tup vs)) (.tuple ds) (.ref p) (p :: cs) ∧ (p :: cs).Nodup :=
  ⟨⟨p, vs, cs, rfl, upd_same, h.same (same_new hp), rfl⟩, List.nodup_cons.mpr ⟨h.not hp, nd⟩⟩
theorem New.cons {H : Hp} {p : Addr} {as : List Addr} (h : H p = none) (n : New H as) : New H (p :: as) := fun b hb => by
  rcases List.mem_cons.mp hb with z | z
  · rw [z]
    exact h
  · exact n b z
theorem new_nil {H : Hp} : New H [] := fun _ z => nomatch z
/-- a list that is being filled with data while the sack is drawn from -/
structure FillF (p : Addr) (H H' : Hp) (D : Addr) (ds : List PyData) (vs : List V) (cs : List Addr) (n : Nat) : Prop where
  at_ : H' D = some (.lst vs)
  own : OwnAll H' ds vs cs
  fr : Fr p H H'
  sack : SackAt H' p n
  new : New H cs
  out : D ∉ cs
  nd : cs.Nodup
  has : ∃ o, H p = some o
theorem FillF.start {p : Addr} {H : Hp} {D : Addr} {n : Nat} (hs : SackAt H p n) (hD : H D = none) : FillF p H (upd H D (.lst [])) D [] [] [] n :=
  ⟨upd_same, ⟨rfl, rfl⟩, Fr.refl.put hD, hs.put (hs.ne hD), new_nil, (fun z => nomatch z), List.nodup_nil, hs.has⟩
theorem FillF.more {p : Addr} {H H' H2 : Hp} {D : Addr} {ds : List PyData} {vs : List V} {cs bs : List Addr} {d : PyData} {v : V} {n m : Nat} (F : FillF p H H' D ds vs cs n) (hD : H D = none) (hp : p ≠ D) (sm : Fr p H' H2) (hs : SackAt H2 p m) (ow : Own H2 d v bs) (nw : New H' bs) (nd : bs.Nodup) :
    H2 D = some (.lst vs) ∧ FillF p H (upd H2 D (.lst (vs ++ [v]))) D (ds ++ [d]) (vs ++ [v]) (cs ++ bs) m := by
  have out2 : D ∉ bs := fun z => by
    have e := nw D z
    rw [F.at_] at e
    cases e
  have po : p ∉ cs := fun z => by
    have e := F.new p z
    obtain ⟨o, q⟩ := F.has
    rw [e] at q
    cases q
  have o1 : OwnAll H2 ds vs cs := F.own.fr po sm
  refine ⟨sm _ (Ne.symm hp) _ F.at_, upd_same, (o1.put F.out).snoc (ow.put out2), fun b hb o e => ?_, hs.put hp, fun b hb => ?_, fun z => ?_, List.nodup_append.mpr ⟨F.nd, nd, fun a ha b hb e => ?_⟩, F.has⟩
  · rw [upd_ne (ne_of_none e hD)]
    exact sm _ hb _ (F.fr _ hb _ e)
  · rcases List.mem_append.mp hb with z | z
    · exact F.new b z
    · exact F.fr.back F.sack (nw b z)
  · rcases List.mem_append.mp z with z | z
    · exact F.out z
    · exact out2 z
  · subst e
    obtain ⟨o, z⟩ := F.own.has a ha
    rw [nw a hb] at z
    cases z
theorem FillF.list {p : Addr} {H H' : Hp} {D : Addr} {ds : List PyData} {vs : List V} {cs : List Addr} {n : Nat} (F : FillF p H H' D ds vs cs n) (hD : H D = none) : Own H' (.list ds) (.ref D) (D :: cs) ∧ New H (D :: cs) ∧ (D :: cs).Nodup :=
  ⟨⟨D, vs, cs, rfl, F.at_, F.own, rfl⟩, New.cons hD F.new, List.nodup_cons.mpr ⟨F.out, F.nd⟩⟩
end K09

set_option Elab.async false
set_option linter.all false
set_option maxRecDepth 100000
set_option maxHeartbeats 4000000
set_option exponentiation.threshold 5000
namespace K09
open PySem L2 DL PySem.HouseX CM
theorem SackAt.le {H : Hp} {p : Addr} {n m : Nat} (h : SackAt H p n) (k : n ≤ m) : SackAt H p m := by
  obtain ⟨a, b, c, e, r1, r2, r3, r4, r5⟩ := h
  exact ⟨a, b, c, e, r1, r2, r3, r4, by omega⟩
structure TxtH1 (mg : Str → Option Value) (fP : Addr) : Prop where
  int : mg "int" = none
  range : mg "range" = none
  gP : mg "_law_hd_pick" = some (.ref fP)
def spDrawn : Sp := fun vs H Q _ => ∃ (sk : Addr) (k n c top : Nat), vs = [.ref sk, .int n, .int c, .int top] ∧ SackAt H sk k ∧ k ≤ 900000000 ∧ n ≤ 4 ∧ 0 < n ∧ c ≤ 4 ∧ top ≤ 1000 ∧
  ∀ H' v as rs, Fr sk H H' → SackAt H' sk (k + 40) → Own H' (pieceD rs) v as → New H as → as.Nodup → WidC n c rs → (∀ r ∈ rs, (∀ x ∈ r.is, x.natAbs ≤ top + 1) ∧ r.am.natAbs ≤ top) → Q v H'
end K09

set_option Elab.async false
set_option linter.all false
set_option maxRecDepth 100000
set_option maxHeartbeats 4000000
set_option exponentiation.threshold 5000
namespace K09
open PySem L2 DL PySem.HouseX CM
/-- ints drawn so far into the list at D -/
structure Ints (sk : Addr) (H H' : Hp) (D : Addr) (top j k : Nat) (ys : List Int) : Prop where
  at_ : H' D = some (.lst (IL ys))
  len : ys.length = j
  le : ∀ x ∈ ys, x.natAbs ≤ top
  fr : Fr sk H H'
  sack : SackAt H' sk k
theorem Ints.start {sk : Addr} {H : Hp} {D : Addr} {top k : Nat} (hs : SackAt H sk k) (hD : H D = none) : Ints sk H (upd H D (.lst [])) D top 0 k [] := ⟨upd_same, rfl, (fun _ h => nomatch h), Fr.refl.put hD, hs.put (hs.ne hD)⟩
theorem Ints.more {sk : Addr} {H H' H2 : Hp} {D : Addr} {top j k k2 : Nat} {ys : List Int} {y : Int} (I : Ints sk H H' D top j k ys) (hD : H D = none) (ne : D ≠ sk) (sm : Fr sk H' H2) (hs : SackAt H2 sk k2) (hy : y.natAbs ≤ top) :
    H2 D = some (.lst (IL ys)) ∧ Ints sk H (upd H2 D (.lst (IL ys ++ [V.int y]))) D top (j + 1) k2 (ys ++ [y]) := by
  refine ⟨sm _ ne _ I.at_, by rw [upd_same, il_snoc], by rw [List.length_append, I.len]; rfl, fun x hx => ?_, fun b hb o e => ?_, hs.put (Ne.symm ne)⟩
  · rcases List.mem_append.mp hx with z | z
    · exact I.le x z
    · rw [List.mem_singleton.mp z]; exact hy
  · rw [upd_ne (ne_of_none e hD)]
    exact sm _ hb _ (I.fr _ hb _ e)
theorem zip_lines : ∀ {rows : List (List Int)} {ams : List Int}, rows.length = ams.length → (List.zipWith Line.mk rows ams).map (·.is) = rows ∧ (List.zipWith Line.mk rows ams).map (·.am) = ams
  | [], [], _ => ⟨rfl, rfl⟩
  | r :: rows, a :: ams, h => by
    obtain ⟨h1, h2⟩ := zip_lines (Nat.succ.inj h)
    exact ⟨congrArg (r :: ·) h1, congrArg (a :: ·) h2⟩
theorem pieceD_zip {rows : List (List Int)} {ams : List Int} (h : rows.length = ams.length) : pieceD (List.zipWith Line.mk rows ams) = .tuple [.list (rows.map stD), .list (ams.map PyData.int)] := by
  obtain ⟨h1, h2⟩ := zip_lines h
  unfold pieceD matD
  rw [h2]
  have : (List.zipWith Line.mk rows ams).map (fun r => PyData.list (r.is.map PyData.int)) = rows.map stD := by
    conv => rhs; rw [← h1, List.map_map]
    rfl
  rw [this]
section
variable {P : Program} {w : World} {K : PySem.W.Frag} {mg : Str → Option Value} {base : Heap}
theorem scDrawn : FnScope ["_law_sack", "_law_many", "_law_results", "_law_top", "_law_matrix", "_law_kind", "_law_result", "_law_line", "_law_rank"] ["_law_sack", "_law_many", "_law_results", "_law_top"] (defScope sLDrawnP) := ⟨rfl, rfl, rfl, by decide +kernel, rfl, by decide +kernel, by decide +kernel⟩
theorem ok_drawn {f fP : Addr} {fd fdP : FuncData} (F : Fun K "_law_hd_drawn_piece" "_law_hd_drawn_piece" sLDrawnP f fd) (T : TxtH1 mg fP)
    (GP : FnOk P w K mg base CX0 1 fP fdP ["_law_sack", "_law_many"] spPick) (kP : PySem.W.keepIn K (.ref fP) = true) (bP : Binds K fdP ["_law_sack", "_law_many"] []) : FnOk P w K mg base CX0 2 f fd ["_law_sack", "_law_many", "_law_results", "_law_top"] spDrawn := by
  have nd := scDrawn.nd
  refine F.ok scDrawn (fun vs H Q E h => ?_) (fun cdv A outer s H vs Q E hr h => ?_)
  · obtain ⟨_, _, _, _, _, rfl, _⟩ := h
    rfl
  · obtain ⟨sk, k, n, c, top, rfl, hsk, kb, n4, n0, c2, tb, q⟩ := h
    refine ⟨_, pss_cons (ps_par (i := 4) (j := 5) (by rfl) nd rfl rfl (by decide) rfl rfl (pa_cons (pe_lst pa_nil) (pa_cons (pe_call GP hr rfl T.gP kP bP .nil pass0 (pa_cons (pv 0) (pa_cons pe_int pa_nil))) pa_nil)) (by rfl))
      (pss_cons (ps_for PassesOwn.never rfl (pi_range1 (by rfl) T.range (pa_cons (pv 2) pa_nil)) (pg_name (i := 6) nd rfl (Or.inr rfl))
        (pss_cons (ps_setLc (i := 7) (own := [("_law_rank", 8)]) (g := gName 8) rfl nd rfl rfl (sw_true rfl rfl rfl (by decide +kernel)) (pi_range1 (by rfl) T.range (pa_cons (pv 1) pa_nil))
          (blkOk_by (N := ["_law_sack", "_law_many", "_law_results", "_law_top", "_law_matrix", "_law_kind", "_law_result", "_law_line", "_law_rank"]) (sc := defScope sLDrawnP) (by decide +kernel)) (fun _ _ _ _ _ => pg_name (i := 8) nd rfl (Or.inl rfl)) (fun _ _ _ _ _ => pts_nil)
          (fun _ _ _ _ _ => pe_ix (show IxR _ (rIxL K) from ix_list) (pe_lst (pa_cons pe_int (pa_cons (pe_op op_sub (pe_call GP hr rfl T.gP kP bP .nil pass0 (pa_cons (pv 0) (pa_cons (pe_op op_add (pe_op op_mul pe_int (pv 3)) pe_int) pa_nil))) (pv 3)) pa_nil)))
            (pe_call GP hr rfl T.gP kP bP .nil pass0 (pa_cons (pv 0) (pa_cons pe_int pa_nil))) (fun _ _ => rfl)))
        (pss_cons (ps_if (pt_cmpR op_eq (pv 5) pe_int (nomark _)) (pss_one (ps_setLc (i := 7) (own := [("_law_rank", 8)]) (g := gName 8) rfl nd rfl rfl (sw_true rfl rfl rfl (by decide +kernel)) (pi_range1 (by rfl) T.range (pa_cons (pv 1) pa_nil))
          (blkOk_by (N := ["_law_sack", "_law_many", "_law_results", "_law_top", "_law_matrix", "_law_kind", "_law_result", "_law_line", "_law_rank"]) (sc := defScope sLDrawnP) (by decide +kernel)) (fun _ _ _ _ _ => pg_name (i := 8) nd rfl (Or.inl rfl)) (fun _ _ _ _ _ => pts_nil)
          (fun _ _ _ _ _ => pe_callTy call_int1 (by rfl) T.int (by decide +kernel) (pa_cons (pe_cmpR op_eq (pv 8) (pe_op op_modN (pe_callTy call_int1 (by rfl) T.int (by decide +kernel) (pa_cons (pv 6) pa_nil)) (pv 1)) (nomark _)) pa_nil)))) pss_nil)
        (pss_one (ps_expr (pe_bm PySem.F.plainAttrs_list PySem.F.slot_list_append PySem.F.type_list_append mt_append (pv 4) (pa_cons (pv 7) pa_nil)))))))
      (pss_one (ps_ret (pe_tup (pa_cons (pv 4) (pa_cons (pe_lc (own := [("_law_result", 6)]) (g := gName 6) rfl nd (pi_range1 (by rfl) T.range (pa_cons (pv 2) pa_nil))
          (blkOk_by (N := ["_law_sack", "_law_many", "_law_results", "_law_top", "_law_matrix", "_law_kind", "_law_result", "_law_line", "_law_rank"]) (sc := defScope sLDrawnP) (by decide +kernel)) (fun _ _ _ _ _ => pg_name (i := 6) nd rfl (Or.inl rfl)) (fun _ _ _ _ _ => pts_nil)
          (fun _ _ _ _ _ => pe_op op_sub (pe_call GP hr rfl T.gP kP bP .nil pass0 (pa_cons (pv 0) (pa_cons (pe_op op_add (pe_op op_mul pe_int (pv 3)) pe_int) pa_nil))) (pv 3))) pa_nil)))))), ?_⟩
    refine ⟨Nat.zero_le _, fun D hD => ?_⟩
    have nD := hsk.ne hD
    have e0 : upd H D (.lst []) D = some (.lst []) := upd_same
    refine ⟨_, rfl, sk, k, 3, rfl, hsk.put nD, by omega, by decide, by decide, fun H1 kd kd0 kd1 q1 s1 => ?_⟩
    have f1 := (Fr.refl.put hD).trans (Fr.of_eq q1)
    have a1 := (q1 D (Ne.symm nD)).trans e0
    refine ⟨_, _, rfl, ?_⟩
    refine ⟨_, rfl, c, rfl, by omega, by omega, ?_⟩
    refine for_it (walk_range (lo := 0) (n := c)) (fun i σ H' => ∃ (rows : List (List Int)) (vs : List V) (cs : List Addr) (x6 x7 : Option V), σ = [some (.ref sk), some (.int (n : Nat)), some (.int (c : Nat)), some (.int (top : Nat)), some (.ref D), some (.int kd), x6, x7, none] ∧ FillF sk H H' D (rows.map stD) vs cs (k + 1 + i * (2 * n)) ∧ rows.length = i ∧ (∀ r ∈ rows, r.length = n ∧ ∀ x ∈ r, x.natAbs ≤ top + 1))
      ⟨[], [], [], _, _, rfl, ⟨a1, ⟨rfl, rfl⟩, f1, by simpa using s1, new_nil, (fun z => nomatch z), List.nodup_nil, hsk.has⟩, rfl, fun _ h => nomatch h⟩ (fun _ _ _ _ _ => trivial) ?_ ?_
    · rintro i x σ H2 H2' hi ⟨rows, vs, cs, x6, x7, rfl, Fl, rl, rok⟩ ⟨rfl, rfl⟩
      have e6 : (0 + ((i : Nat) : Int)) = (i : Int) := Int.zero_add _
      refine ⟨_, rfl, n, rfl, by omega, by omega, fun E1 hE1 => ?_⟩
      have nE1 := Fl.sack.ne hE1
      have ic : i * (2 * n) ≤ 3 * (2 * n) := Nat.mul_le_mul_right _ (by omega)
      refine lc_it (walk_range (lo := 0) (n := n)) (fun j H' => ∃ ys, Ints sk H2' H' E1 (top + 1) j (k + 1 + i * (2 * n) + 2 * j) ys) ⟨[], Ints.start (by simpa using Fl.sack) hE1⟩ (fun _ _ _ _ => trivial) ?_ ?_
      · rintro j x H3 H3' hj ⟨ys, I⟩ ⟨rfl, rfl⟩
        refine ⟨rfl, _, rfl, _, rfl, _, _, rfl, rfl, .inl ⟨by decide, by decide⟩, _, _, rfl, rfl, sk, _, _, rfl, I.sack, by omega, by omega, by omega, fun H4 z z0 z1 q4 s4 => ?_⟩
        refine ⟨_, rfl, _, _, rfl, rfl, (by show 2 ≤ sizeLine; decide), fun l0 hl0 => ?_⟩
        have g1 := (Fr.of_eq q4).put (o := .lst [V.int 0, V.int (z - (top : Nat))]) hl0
        have nl := s4.ne hl0
        have el : upd H4 l0 (.lst [V.int 0, V.int (z - (top : Nat))]) l0 = some (.lst [V.int 0, V.int (z - (top : Nat))]) := upd_same
        refine ⟨_, rfl, sk, _, 2, rfl, s4.put nl, by omega, by decide, by decide, fun H5 y y0 y1 q5 s5 => ?_⟩
        have g2 := g1.trans (Fr.of_eq q5)
        have el5 := (q5 l0 (Ne.symm nl)).trans el
        obtain ⟨y', hy', by'⟩ : ∃ y' : Int, atI [V.int 0, V.int (z - (top : Nat))] y = some (V.int y') ∧ y'.natAbs ≤ top + 1 := by
          rcases (show y = 0 ∨ y = 1 by omega) with rfl | rfl
          · exact ⟨0, rfl, by omega⟩
          · exact ⟨z - (top : Nat), rfl, by omega⟩
        obtain ⟨m1, m2⟩ := I.more hE1 (Ne.symm nE1) g2 s5 by'
        refine ⟨l0, _, _, _, rfl, rfl, SqL.of el5, hy', IL ys, m1, ?_, ys ++ [y'], ?_⟩
        · have := I.len
          unfold IL
          rw [List.length_map]
          exact Nat.lt_of_le_of_lt (show _ ≤ 100 by omega) (by decide)
        · rw [show k + 1 + i * (2 * n) + 2 * (j + 1) = k + 1 + i * (2 * n) + 2 * j + 1 + 1 by omega]
          exact m2
      · rintro H3 ⟨ys, I⟩
        have cnt : k + 1 + i * (2 * n) + 2 * n = k + 1 + (i + 1) * (2 * n) := by
          have : (i + 1) * (2 * n) = i * (2 * n) + 2 * n := Nat.succ_mul i (2 * n)
          omega
        have I1 := I.sack
        rw [cnt] at I1
        refine ⟨_, rfl, rfl, _, rfl, ite2 (fun hk => ?_) (fun hk => ?_)⟩
        case' refine_1 =>
          refine ⟨_, rfl, n, rfl, by omega, by omega, fun E2 hE2 => ?_⟩
          have nE2 := I.sack.ne hE2
          refine lc_it (walk_range (lo := 0) (n := n)) (Made H3 E2 (fun _ => true) (fun j => V.int (if decide (V.int (0 + ((j : Nat) : Int)) = V.int ((0 + ((i : Nat) : Int)).fmod (n : Nat))) = true then 1 else 0))) (Made.start hE2) (fun _ _ _ _ => trivial) ?_ ?_
          · rintro j x H4 H4' hj M ⟨rfl, rfl⟩
            refine ⟨rfl, _, rfl, _, rfl, .inl ⟨_, rfl, ?_⟩⟩
            refine ⟨_, rfl, _, _, rfl, rfl, by omega, rfl, .inr ⟨_, rfl, ?_⟩⟩
            exact M.yes hE2 (Same.refl _) rfl (by omega)
          intro H4 M
          obtain ⟨E3, hE3e⟩ : ∃ E3, E3 = E2 := ⟨_, rfl⟩
          obtain ⟨yy, hyy⟩ : ∃ yy : List Int, yy = (List.range n).map fun j : Nat => if decide (V.int (0 + ((j : Nat) : Int)) = V.int ((0 + ((i : Nat) : Int)).fmod (n : Nat))) = true then (1 : Int) else 0 := ⟨_, rfl⟩
          have hEl : H4 E2 = some (.lst (IL yy)) := by
            rw [M.at_, made_all, hyy]
            unfold IL
            rw [List.map_map]
            rfl
          have yl : yy.length = n := by rw [hyy, List.length_map, List.length_range]
          have yle : ∀ x ∈ yy, x.natAbs ≤ top + 1 := fun x hx => by
            rw [hyy] at hx
            obtain ⟨j, _, rfl⟩ := List.mem_map.mp hx
            split <;> omega
          have fr4 : Fr sk H2' H4 := I.fr.trans (Fr.of_same M.same)
          have s4 := I1.same M.same
          have nEl : H2' E2 = none := I.fr.back I.sack hE2
        case' refine_2 =>
          obtain ⟨E2, hE2e⟩ : ∃ E2, E2 = E1 := ⟨_, rfl⟩
          obtain ⟨H4, hH4⟩ : ∃ H4, H4 = H3 := ⟨_, rfl⟩
          obtain ⟨yy, hyy⟩ : ∃ yy : List Int, yy = ys := ⟨_, rfl⟩
          have hEl : H4 E2 = some (.lst (IL yy)) := by rw [hH4, hE2e, hyy]; exact I.at_
          have yl : yy.length = n := by rw [hyy]; exact I.len
          have yle : ∀ x ∈ yy, x.natAbs ≤ top + 1 := by rw [hyy]; exact I.le
          have fr4 : Fr sk H2' H4 := by rw [hH4]; exact I.fr
          have s4 : SackAt H4 sk (k + 1 + (i + 1) * (2 * n)) := by rw [hH4]; exact I1
          have nEl : H2' E2 = none := by rw [hE2e]; exact hE1
          rw [← hH4, ← hE2e]
        all_goals
          obtain ⟨m1, m2⟩ := Fl.more hD nD fr4 s4 (st_own hEl) (fun b hb => by rw [List.mem_singleton.mp hb]; exact nEl) (by simp)
          have vl := Fl.own.len
          rw [List.length_map, rl] at vl
          refine ⟨_, rfl, .inl ⟨rfl, _, SqL.of m1⟩, _, rfl, D, vs, _, rfl, rfl, m1, Nat.lt_of_le_of_lt (show vs.length ≤ 100 by omega) (by decide), ?_⟩
          refine ⟨rows ++ [yy], vs ++ [.ref E2], cs ++ [E2], _, _, rfl, ?_, by rw [List.length_append, rl]; rfl, fun r hr => ?_⟩
          · rw [List.map_append]
            exact m2
          · rcases List.mem_append.mp hr with z | z
            · exact rok r z
            · rw [List.mem_singleton.mp z]
              exact ⟨yl, yle⟩
    · rintro σ H2 ⟨rows, vs, cs, x6, x7, rfl, Fl, rl, rok⟩
      have ic : c * (2 * n) ≤ 4 * (2 * n) := Nat.mul_le_mul_right _ c2
      refine ⟨_, rfl, _, rfl, c, rfl, by omega, by omega, fun E1 hE1 => ?_⟩
      have nE1 := Fl.sack.ne hE1
      refine lc_it (walk_range (lo := 0) (n := c)) (fun j H' => ∃ ys, Ints sk H2 H' E1 top j (k + 1 + c * (2 * n) + j) ys) ⟨[], Ints.start Fl.sack hE1⟩ (fun _ _ _ _ => trivial) ?_ ?_
      · rintro j x H3 H3' hj ⟨ys, I⟩ ⟨rfl, rfl⟩
        refine ⟨rfl, _, rfl, _, rfl, _, _, rfl, rfl, .inl ⟨by decide, by decide⟩, _, _, rfl, rfl, sk, _, _, rfl, I.sack, by omega, by omega, by omega, fun H4 z z0 z1 q4 s4 => ?_⟩
        obtain ⟨m1, m2⟩ := I.more (y := z - (top : Nat)) hE1 (Ne.symm nE1) (Fr.of_eq q4) s4 (by omega)
        refine ⟨_, rfl, _, _, rfl, rfl, IL ys, m1, ?_, ys ++ [z - (top : Nat)], m2⟩
        have := I.len
        unfold IL
        rw [List.length_map]
        exact Nat.lt_of_le_of_lt (show _ ≤ 100 by omega) (by decide)
      · rintro H3 ⟨ys, I⟩
        refine ⟨(by show 2 ≤ sizeLine; decide), fun t ht => ?_⟩
        have nt := I.sack.ne ht
        have zt := same_new (o := .tup [V.ref D, V.ref E1]) ht
        have lz : rows.length = ys.length := by rw [rl, I.len]
        have fr3 := Fl.fr.trans I.fr
        have po : sk ∉ cs := fun z => by
          have e := Fl.new sk z
          obtain ⟨o, q⟩ := Fl.has
          rw [e] at q
          cases q
        have ownD : Own (upd H3 t (.tup [V.ref D, V.ref E1])) (.list (rows.map stD)) (.ref D) (D :: cs) :=
          ⟨D, vs, cs, rfl, zt _ _ (I.fr _ (Ne.symm nD) _ Fl.at_), (Fl.own.fr po I.fr).same zt, rfl⟩
        have ownE : Own (upd H3 t (.tup [V.ref D, V.ref E1])) (.list (ys.map PyData.int)) (.ref E1) [E1] :=
          ⟨E1, _, [], rfl, zt _ _ I.at_, own_ints _, rfl⟩
        refine q _ (.ref t) (t :: ((D :: cs) ++ ([E1] ++ []))) (List.zipWith Line.mk rows ys) (fr3.trans (Fr.of_same zt)) ((I.sack.le (by omega)).same zt) ?_ ?_ ?_ ?_ ?_
        · rw [pieceD_zip lz]
          exact ⟨t, _, _, rfl, upd_same, ⟨_, _, D :: cs, _, rfl, ownD, ⟨_, _, [E1], [], rfl, ownE, ⟨rfl, rfl⟩, rfl⟩, rfl⟩, rfl⟩
        · refine New.cons (fr3.back I.sack ht) fun b hb => ?_
          rcases List.mem_append.mp hb with z | z
          · exact (New.cons hD Fl.new) b z
          · rw [List.append_nil, List.mem_singleton] at z
            rw [z]
            exact Fl.fr.back Fl.sack hE1
        · have n1 : (D :: cs).Nodup := List.nodup_cons.mpr ⟨Fl.out, Fl.nd⟩
          have hasD : ∀ b ∈ D :: cs, ∃ o, H2 b = some o := fun b hb => by
            rcases List.mem_cons.mp hb with z | z
            · rw [z]; exact ⟨_, Fl.at_⟩
            · exact Fl.own.has b z
          refine List.nodup_cons.mpr ⟨fun z => ?_, List.nodup_append.mpr ⟨n1, by simp, fun a ha b hb e => ?_⟩⟩
          · rcases List.mem_append.mp z with z | z
            · obtain ⟨o, e⟩ := hasD t z
              have := I.fr t (Ne.symm nt) o e
              rw [ht] at this
              cases this
            · rw [List.append_nil, List.mem_singleton] at z
              rw [z, I.at_] at ht
              cases ht
          · rw [List.append_nil, List.mem_singleton] at hb
            obtain ⟨o, e2⟩ := hasD a ha
            rw [e, hb, hE1] at e2
            cases e2
        · obtain ⟨h1, h2⟩ := zip_lines lz
          refine ⟨fun r hr => ?_, by rw [List.length_zipWith, rl, I.len, Nat.min_self]⟩
          have : r.is ∈ rows := by rw [← h1]; exact List.mem_map.mpr ⟨r, hr, rfl⟩
          exact (rok _ this).1
        · intro r hr
          obtain ⟨h1, h2⟩ := zip_lines lz
          have z1 : r.is ∈ rows := by rw [← h1]; exact List.mem_map.mpr ⟨r, hr, rfl⟩
          have z2 : r.am ∈ ys := by rw [← h2]; exact List.mem_map.mpr ⟨r, hr, rfl⟩
          exact ⟨(rok _ z1).2, I.le _ z2⟩
end
end K09

set_option Elab.async false
set_option linter.all false
set_option maxRecDepth 100000
set_option maxHeartbeats 4000000
set_option exponentiation.threshold 5000
namespace K09
open PySem L2 DL PySem.HouseX CM
def partsB (B : Nat) : List Nat := ((List.range B).filter fun i => decide (B % (1 + i) = 0)).map fun i => 1 + i
theorem partsB_mem {B p : Nat} (h : p ∈ partsB B) : 0 < p ∧ p ∣ B := by
  obtain ⟨i, hi, rfl⟩ := List.mem_map.mp h
  exact ⟨by omega, Nat.dvd_of_mod_eq_zero (of_decide_eq_true (List.mem_filter.mp hi).2)⟩
theorem partsB_pos {B : Nat} (h : 0 < B) : 0 < (partsB B).length := by
  have : 1 ∈ partsB B := List.mem_map.mpr ⟨0, List.mem_filter.mpr ⟨List.mem_range.mpr h, by simp [Nat.mod_one]⟩, rfl⟩
  exact List.length_pos_of_mem this
theorem partsB_le (B : Nat) : (partsB B).length ≤ B := by
  unfold partsB
  rw [List.length_map]
  exact Nat.le_trans (List.length_filter_le _ _) (by simp)
noncomputable def lowB (ms : List Nat) (F : List Nat → List Line) (k d : Nat) : Bool := @decide (LowAll ms F k d) (Classical.propDecidable _)
theorem lowB_iff {ms : List Nat} {F : List Nat → List Line} {k d : Nat} : lowB ms F k d = true ↔ LowAll ms F k d := by
  unfold lowB
  exact @decide_eq_true_iff _ (Classical.propDecidable _)
theorem list_mid {α : Type} {l : List α} {k : Nat} (h : k < l.length) (d : α) : l = l.take k ++ l.getD k d :: l.drop (k + 1) := by
  have e : l.getD k d = l[k] := by rw [List.getD_eq_getElem?_getD, List.getElem?_eq_getElem h]; rfl
  rw [e, ← List.drop_eq_getElem_cons h, List.take_append_drop]
theorem set_mid {α : Type} {r1 r2 : List α} {a b : α} {k : Nat} (h : r1.length = k) : (r1 ++ a :: r2).set k b = r1 ++ b :: r2 := by
  subst h
  rw [List.set_append_right _ _ (Nat.le_refl _), Nat.sub_self]
  rfl
theorem getD_mid {r1 r2 : List Nat} {a : Nat} {k : Nat} (h : r1.length = k) : (r1 ++ a :: r2).getD k 0 = a := by
  subst h
  rw [List.getD_eq_getElem?_getD]
  simp
/-- moved to the rest by a part of the modulus: a period -/
theorem low_per {F : List Nat → List Line} {ms : List Nat} {p : List (List Line)} (T : FM.Told F ms p) {k m d : Nat} (hm : ms[k]? = some m) (hd : d ∣ m) (d0 : 0 < d) : LowAll ms F k d ↔ FM.PdC F ms.length k d := by
  have kl := (List.getElem?_eq_some_iff.mp hm).1
  have m0 : 0 < m := T.pos m (List.mem_of_getElem? hm)
  constructor
  · intro L r1 a r2 h1 h2
    have key : ∀ x, F (r1 ++ x :: r2) = F (r1 ++ (x % d) :: r2) := fun x => by
      have len : (r1 ++ x :: r2).length = ms.length := by rw [List.length_append, List.length_cons]; omega
      have e1 := T.modl len
      have R := FM.modl_rest T.pos len
      have e2 := L _ R
      obtain ⟨hs, hl⟩ := FM.split_at hm
      have f : FM.modl ms (r1 ++ x :: r2) = FM.modl (ms.take k) r1 ++ (x % m) :: FM.modl (ms.drop (k + 1)) r2 := by
        have g : ∀ (pre : List Nat) (suf : List Nat) (r1 : List Nat), r1.length = pre.length → FM.modl (pre ++ m :: suf) (r1 ++ x :: r2) = FM.modl pre r1 ++ (x % m) :: FM.modl suf r2 := fun pre => by
          induction pre with
          | nil =>
            intro suf r1 h
            match r1, h with
            | [], _ => rfl
          | cons q pre ih =>
            intro suf r1 h
            match r1, h with
            | b :: r1, h => exact congrArg (b % q :: ·) (ih suf r1 (Nat.succ.inj h))
        conv => lhs; rw [hs]
        exact g _ _ _ (by rw [h1, hl])
      have l1 : (FM.modl (ms.take k) r1).length = k := by rw [FM.modl_len (by rw [h1, hl])]; exact hl
      rw [f, getD_mid l1, set_mid l1, Nat.mod_mod_of_dvd x hd] at e2
      have P := T.perI hm
      have e3 : FM.modl (ms.take k) r1 ++ (x % d) :: FM.modl (ms.drop (k + 1)) r2 = FM.modl (ms.take k) r1 ++ (x % d % m) :: FM.modl (ms.drop (k + 1)) r2 := by
        rw [Nat.mod_eq_of_lt (show x % d < m from Nat.lt_of_lt_of_le (Nat.mod_lt _ d0) (Nat.le_of_dvd m0 hd))]
      have g2 : FM.modl ms (r1 ++ (x % d) :: r2) = FM.modl (ms.take k) r1 ++ (x % d % m) :: FM.modl (ms.drop (k + 1)) r2 := by
        have g : ∀ (pre : List Nat) (suf : List Nat) (r1 : List Nat), r1.length = pre.length → FM.modl (pre ++ m :: suf) (r1 ++ (x % d) :: r2) = FM.modl pre r1 ++ (x % d % m) :: FM.modl suf r2 := fun pre => by
          induction pre with
          | nil =>
            intro suf r1 h
            match r1, h with
            | [], _ => rfl
          | cons q pre ih =>
            intro suf r1 h
            match r1, h with
            | b :: r1, h => exact congrArg (b % q :: ·) (ih suf r1 (Nat.succ.inj h))
        conv => lhs; rw [hs]
        exact g _ _ _ (by rw [h1, hl])
      have e4 := T.modl (r := r1 ++ (x % d) :: r2) (by rw [List.length_append, List.length_cons]; omega)
      rw [← e1, f, ← e2, e3, ← g2, e4]
    rw [key (a + d), key a, Nat.add_mod_right]
  · intro Pd r hr
    have rl := FM.rest_len hr
    have e := list_mid (l := r) (k := k) (by omega) 0
    obtain ⟨x, hx⟩ : ∃ x, x = r.getD k 0 := ⟨_, rfl⟩
    rw [← hx] at e ⊢
    have tl : (r.take k).length = k := by rw [List.length_take]; omega
    have dl : (r.take k).length + 1 + (r.drop (k + 1)).length = ms.length := by rw [tl, List.length_drop]; omega
    have q := Pd.less (r1 := r.take k) (r2 := r.drop (k + 1)) x tl dl
    conv => lhs; rw [e, set_mid tl]
    conv => rhs; rw [e]
    exact q
theorem partsB_sort (B : Nat) : (partsB B).Pairwise (· < ·) := by
  unfold partsB
  rw [List.pairwise_map]
  exact (List.pairwise_lt_range.filter _).imp fun h => by omega
theorem partsB_in {B p : Nat} (h : p ∣ B) (hB : 0 < B) : p ∈ partsB B := by
  have p0 := Nat.pos_of_dvd_of_pos h hB
  have := Nat.le_of_dvd hB h
  refine List.mem_map.mpr ⟨p - 1, List.mem_filter.mpr ⟨List.mem_range.mpr (by omega), decide_eq_true ?_⟩, by omega⟩
  rw [show 1 + (p - 1) = p by omega]
  exact Nat.mod_eq_zero_of_dvd h
/-- the first part that is a period is the least period -/
theorem first_least {F : List Nat → List Line} {ms : List Nat} {p : List (List Line)} (T : FM.Told F ms p) {k m d : Nat} {ds : List Nat} (hm : ms[k]? = some m) (h : (partsB m).filter (lowB ms F k) = d :: ds) : 0 < d ∧ d ∣ m ∧ FM.PdC F ms.length k d ∧ ∀ q, 0 < q → FM.PdC F ms.length k q → d ∣ q := by
  have m0 : 0 < m := T.pos m (List.mem_of_getElem? hm)
  have hd : d ∈ (partsB m).filter (lowB ms F k) := by rw [h]; exact List.mem_cons_self
  obtain ⟨h1, h2⟩ := List.mem_filter.mp hd
  obtain ⟨d0, dm⟩ := partsB_mem h1
  have Pd := (low_per T hm dm d0).mp (lowB_iff.mp h2)
  refine ⟨d0, dm, Pd, fun q hq Pq => ?_⟩
  have Pg := Pd.gcd d q Pq
  have g0 : 0 < Nat.gcd d q := Nat.gcd_pos_of_pos_left _ d0
  have gm : Nat.gcd d q ∣ m := Nat.dvd_trans (Nat.gcd_dvd_left d q) dm
  have gin : Nat.gcd d q ∈ (partsB m).filter (lowB ms F k) := List.mem_filter.mpr ⟨partsB_in gm m0, lowB_iff.mpr ((low_per T hm gm g0).mpr Pg)⟩
  have so := (partsB_sort m).filter (lowB ms F k)
  rw [h] at gin so
  have le : d ≤ Nat.gcd d q := by
    rcases List.mem_cons.mp gin with z | z
    · omega
    · exact Nat.le_of_lt ((List.pairwise_cons.mp so).1 _ z)
  have e : Nat.gcd d q = d := Nat.le_antisymm (Nat.le_of_dvd d0 (Nat.gcd_dvd_left d q)) le
  rw [← e]
  exact Nat.gcd_dvd_right d q
theorem period_some {F : List Nat → List Line} {ms : List Nat} {p : List (List Line)} (T : FM.Told F ms p) {k m : Nat} (hm : ms[k]? = some m) : ∃ d ds, (partsB m).filter (lowB ms F k) = d :: ds := by
  have m0 : 0 < m := T.pos m (List.mem_of_getElem? hm)
  have : m ∈ (partsB m).filter (lowB ms F k) := List.mem_filter.mpr ⟨partsB_in (Nat.dvd_refl m) m0, lowB_iff.mpr ((low_per T hm (Nat.dvd_refl m) m0).mpr (T.perI hm))⟩
  cases e : (partsB m).filter (lowB ms F k) with
  | nil => rw [e] at this; cases this
  | cons d ds => exact ⟨d, ds, rfl⟩
/-- a table told with a part of one modulus, which is a period -/
theorem told_set {F : List Nat → List Line} {ms : List Nat} {p : List (List Line)} (T : FM.Told F ms p) {k d : Nat} (d0 : 0 < d) (Pd : FM.PdC F ms.length k d) : FM.Told F (ms.set k d) (FM.tab (ms.set k d) F) := by
  refine FM.told_of (fun x hx => ?_) fun i x hx => ?_
  · rcases List.mem_or_eq_of_mem_set hx with z | z
    · exact T.pos x z
    · rw [z]; exact d0
  · rw [List.length_set]
    by_cases e : k = i
    · subst e
      have kl := (List.getElem?_eq_some_iff.mp hx).1
      rw [List.length_set] at kl
      rw [List.getElem?_set_self kl] at hx
      obtain rfl := Option.some.inj hx
      exact Pd
    · rw [List.getElem?_set_ne e] at hx
      exact T.perI hx
theorem form_tab {F : List Nat → List Line} {ms : List Nat} (T : FM.Told F ms (FM.tab ms F)) {r : List Nat} (h : r.length = ms.length) : formF ms (FM.tab ms F) r = F r := by
  unfold formF FM.told
  rw [List.getD_eq_getElem?_getD, T.at h]
  rfl
theorem low_congr {F G : List Nat → List Line} {ms : List Nat} {k d : Nat} (h : ∀ r, r.length = ms.length → F r = G r) : LowAll ms F k d ↔ LowAll ms G k d := by
  constructor
  · intro L r hr
    rw [← h _ (by rw [List.length_set, FM.rest_len hr]), ← h _ (FM.rest_len hr)]
    exact L r hr
  · intro L r hr
    rw [h _ (by rw [List.length_set, FM.rest_len hr]), h _ (FM.rest_len hr)]
    exact L r hr
end K09

set_option Elab.async false
set_option linter.all false
set_option maxRecDepth 100000
set_option maxHeartbeats 4000000
set_option exponentiation.threshold 5000
namespace K09
open PySem L2 DL PySem.HouseX CM
def spLLeast : Sp := fun vs H Q _ => ∃ (v : V) (as : List Addr) (ms : List Nat) (ps : List (List Line)), vs = [v] ∧ Own H (formD ms ps) v as ∧ (∀ m ∈ ms, 0 < m) ∧ ms.length ≤ 20 ∧ ps.length = FM.vol ms ∧ FM.vol ms < 100000 ∧ (∀ rs ∈ ps, PieceOk rs) ∧ nodes (formD ms ps) ≤ 1000000 ∧
  ∀ H' u bs ls, Same H H' → Own H' (formD ls (FM.tab ls (formF ms ps))) u bs → New H bs → FM.LeastT (formF ms ps) ls → ls.length = ms.length → Q u H'
structure TxtH5 (mg : Str → Option Value) (fC fI fT fM : Addr) : Prop where
  int : mg "int" = none
  len : mg "len" = none
  range : mg "range" = none
  gC : mg "_law_hd_copy" = some (.ref fC)
  gI : mg "_law_hd_is_period" = some (.ref fI)
  gT : mg "_law_hd_told_with" = some (.ref fT)
  gM : mg "_law_hd_moved" = some (.ref fM)
section
variable {P : Program} {w : World} {K : PySem.W.Frag} {mg : Str → Option Value} {base : Heap}
theorem scLLeast : FnScope ["_law_form", "_law_found", "_law_rank", "_law_modulus_here", "_law_parts", "_law_part", "_law_one"] ["_law_form"] (defScope sLLeast) := ⟨rfl, rfl, rfl, by decide +kernel, rfl, by decide +kernel, by decide +kernel⟩
theorem ok_lleast {f fC fI fT fM : Addr} {fd fdC fdI fdT fdM : FuncData} (F : Fun K "_law_hd_least" "_law_hd_least" sLLeast f fd) (T : TxtH5 mg fC fI fT fM)
    (GC : FnOk P w K mg base CX0 6 fC fdC ["_law_thing"] (spCopy 5)) (kC : PySem.W.keepIn K (.ref fC) = true) (bC : Binds K fdC ["_law_thing"] [])
    (GI : FnOk P w K mg base CX0 2 fI fdI ["_law_form", "_law_rank", "_law_part"] (spLPeriod K)) (kI : PySem.W.keepIn K (.ref fI) = true) (bI : Binds K fdI ["_law_form", "_law_rank", "_law_part"] [])
    (GT : FnOk P w K mg base CX0 5 fT fdT ["_law_form", "_law_moduli"] (spToldW K)) (kT : PySem.W.keepIn K (.ref fT) = true) (bT : Binds K fdT ["_law_form", "_law_moduli"] [])
    (GM : FnOk P w K mg base CX0 1 fM fdM ["_law_state_here", "_law_rank", "_law_amount"] (spMoved K)) (kM : PySem.W.keepIn K (.ref fM) = true) (bM : Binds K fdM ["_law_state_here", "_law_rank", "_law_amount"] []) : FnOk P w K mg base CX0 7 f fd ["_law_form"] spLLeast := by
  have nd := scLLeast.nd
  refine F.ok scLLeast (fun vs H Q E h => ?_) (fun cdv A outer s H vs Q E hr h => ?_)
  · obtain ⟨_, _, _, _, rfl, _⟩ := h
    rfl
  · obtain ⟨v, as, ms, ps, rfl, hv, pos, n20, pl, few, pok, small, q⟩ := h
    have hr1 : Room 1 _ := hr.mono (by decide)
    have hr2 : Room 2 _ := hr.mono (by decide)
    have hr5 : Room 5 _ := hr.mono (by decide)
    refine ⟨_, pss_cons (ps_set (i := 1) nd rfl (Or.inr rfl) (pe_call GC hr rfl T.gC kC bC .nil pass0 (pa_cons (pv 0) pa_nil)))
      (pss_cons (ps_for PassesOwn.never rfl (pi_range1 (by rfl) T.range (pa_cons (pe_callB call_len_seq (by rfl) T.len PySem.boot_len (pa_cons (pe_ix ix_tup (pv 0) pe_int (fun _ _ => rfl)) pa_nil)) pa_nil)) (pg_name (i := 2) nd rfl (Or.inr rfl))
        (pss_cons (ps_set (i := 3) nd rfl (Or.inr rfl) (pe_ix ix_list (pe_ix ix_tup (pv 1) pe_int (fun _ _ => rfl)) (pv 2) (fun _ _ => rfl)))
        (pss_cons (ps_setLc (i := 4) (own := [("_law_part", 5)]) (g := gName 5) rfl nd rfl rfl (sw_true rfl rfl rfl (by decide +kernel)) (pi_range2 (by rfl) T.range (pa_cons pe_int (pa_cons (pe_op op_add (pv 3) pe_int) pa_nil)))
          (blkOk_by (N := ["_law_form", "_law_found", "_law_rank", "_law_modulus_here", "_law_parts", "_law_part", "_law_one"]) (sc := defScope sLLeast) (by decide +kernel)) (fun _ _ _ _ _ => pg_name (i := 5) nd rfl (Or.inl rfl))
          (fun _ _ _ _ _ => pts_one (pt_cmpR op_eq (pe_op op_modN (pe_callTy call_int1 (by rfl) T.int (by decide +kernel) (pa_cons (pv 3) pa_nil)) (pv 5)) pe_int (nomark _))) (fun _ _ _ _ _ => pv 5))
        (pss_cons (ps_set (i := 5) nd rfl (Or.inl rfl) (pe_ix ix_list (pe_lc (own := [("_law_one", 6)]) (g := gName 6) rfl nd (pi_list (pv 4))
          (blkOk_by (N := ["_law_form", "_law_found", "_law_rank", "_law_modulus_here", "_law_parts", "_law_part", "_law_one"]) (sc := defScope sLLeast) (by decide +kernel)) (fun _ _ _ _ _ => pg_name (i := 6) nd rfl (Or.inl rfl))
          (fun _ _ _ _ _ => pts_one (pt_val (pe_call GI hr2 rfl T.gI kI bI .nil pass0 (pa_cons (pv 1) (pa_cons (pv 2) (pa_cons (pv 6) pa_nil)))))) (fun _ _ _ _ _ => pv 6)) pe_int (fun _ _ => rfl)))
        (pss_one (ps_set (i := 1) nd rfl (Or.inr rfl) (pe_call GT hr5 rfl T.gT kT bT .nil pass0 (pa_cons (pv 1) (pa_cons (pe_call GM hr1 rfl T.gM kM bM .nil pass0 (pa_cons (pe_ix ix_tup (pv 1) pe_int (fun _ _ => rfl)) (pa_cons (pv 2) (pa_cons (pv 5) pa_nil)))) pa_nil)))))))))
      (pss_one (ps_ret (pv 1)))), ?_⟩
    obtain ⟨t, a, b, xs, cs, rfl, ht, ha, hb, ho, hsub⟩ := own_form hv
    obtain ⟨F0, hF0⟩ : ∃ F0, F0 = formF ms ps := ⟨_, rfl⟩
    have TF : FM.Told F0 ms ps := by rw [hF0]; exact FM.told_told pos pl
    have tabF : FM.tab ms F0 = ps := TF.tab.symm
    refine ⟨_, rfl, formD ms ps, .ref t, as, rfl, hv, form_depth ms ps, small, fun H1 v1 bs1 sm1 ow1 nw1 nd1 => ?_⟩
    have nl : (NL ms).length = ms.length := List.length_map ..
    refine ⟨_, rfl, t, _, _, .ref a, rfl, rfl, SqT.of (sm1 _ _ ht), rfl, a, _, rfl, .inl (SqL.of (sm1 _ _ ha)), ?_⟩
    rw [nl]
    refine ⟨ms.length, rfl, by omega, by omega, ?_⟩
    have memF : ∀ r : List Nat, r.length = ms.length → F0 r ∈ ps := fun r hr => List.mem_of_getElem? (TF.at hr)
    have szz : (10000000 : Nat) ≤ sizeLine := by decide
    refine for_it (walk_range (lo := 0) (n := ms.length)) (fun i σ H' => ∃ (u : V) (bs : List Addr) (cur : List Nat) (x2 x3 x4 x5 : Option V), σ = [some (.ref t), some u, x2, x3, x4, x5, none] ∧ Same H1 H' ∧ Own H' (formD cur (FM.tab cur F0)) u bs ∧ New H bs ∧ cur.length = ms.length ∧ FM.Told F0 cur (FM.tab cur F0) ∧ (∀ (j a b : Nat), cur[j]? = some a → ms[j]? = some b → a ∣ b) ∧ ∀ (j m : Nat), j < i → cur[j]? = some m → ∀ q, 0 < q → FM.PdC F0 ms.length j q → m ∣ q)
      ⟨v1, bs1, ms, _, _, _, _, rfl, Same.refl _, by rw [tabF]; exact ow1, nw1, rfl, by rw [tabF]; exact TF, fun j a b h1 h2 => by rw [h1] at h2; rw [Option.some.inj h2]; exact Nat.dvd_refl _, fun j m h => absurd h (by omega)⟩ (fun _ _ _ _ _ => trivial) ?_ ?_
    · rintro i x σ H2 H2' hi ⟨u, bs, cur, x2, x3, x4, x5, rfl, sm2, own, nwO, cl, TC, dv, low⟩ ⟨rfl, rfl⟩
      show gName 2 (V.int (0 + ((i : Nat) : Int))) _ _ _
      rw [Int.zero_add]
      obtain ⟨m, hm⟩ : ∃ m, m = cur.getD i 0 := ⟨_, rfl⟩
      have em : cur[i]? = some m := by rw [hm, List.getD_eq_getElem?_getD, List.getElem?_eq_getElem (by omega)]; rfl
      have emN : (NL cur)[i]? = some (V.int (m : Nat)) := by unfold NL; rw [List.getElem?_map, em]; rfl
      have m0 : 0 < m := TC.pos m (List.mem_of_getElem? em)
      have vc : FM.vol cur ≤ FM.vol ms := vol_dvd pos cl dv
      have mv : m ≤ FM.vol cur := le_vol TC.pos (List.mem_of_getElem? em)
      obtain ⟨ct, ca, cb, cxs, ccs, rfl, hct, hca, hcb, hco, csub⟩ := own_form own
      refine ⟨_, rfl, ct, _, _, .ref ca, rfl, rfl, SqT.of hct, rfl, _, rfl, ca, _, _, V.int (m : Nat), rfl, rfl, SqL.of hca, atI_nat emN, ?_⟩
      refine ⟨_, rfl, _, _, rfl, rfl, 1, (m : Int) + 1, rfl, ⟨by omega, by omega, by omega, by omega⟩, fun P0 hP => ?_⟩
      have eB : ((m : Int) + 1 - 1).toNat = m := by omega
      refine lc_it (walk_range (lo := 1) (n := ((m : Int) + 1 - 1).toNat)) (Made H2' P0 (fun i => decide (m % (1 + i) = 0)) (fun i => V.int (1 + (i : Nat)))) (Made.start hP) (fun _ _ _ _ => trivial) ?_ ?_
      · rintro j x H3 H3' hj M ⟨rfl, rfl⟩
        have fe : ((m : Nat) : Int).fmod (1 + ((j : Nat) : Int)) = ((m % (1 + j) : Nat) : Int) := by
          rw [Int.fmod_eq_emod_of_nonneg _ (by omega), show (1 + ((j : Nat) : Int)) = ((1 + j : Nat) : Int) by omega]
          rfl
        refine ⟨rfl, _, rfl, .inl ⟨_, rfl, ?_⟩⟩
        refine ⟨_, rfl, _, _, rfl, rfl, by omega, rfl, _, rfl, ?_⟩
        refine ite2 (fun h => ?_) (fun h => ?_)
        · have h2 : V.int (((m : Nat) : Int).fmod (1 + ((j : Nat) : Int))) = V.int 0 := of_decide_eq_true h
          rw [fe] at h2
          have := V.int.inj h2
          exact ⟨_, rfl, M.yes hP (Same.refl _) (decide_eq_true (show m % (1 + j) = 0 by omega)) (by omega)⟩
        · exact M.no (Same.refl _) (decide_eq_false fun z => h (decide_eq_true (show V.int (((m : Nat) : Int).fmod (1 + ((j : Nat) : Int))) = V.int 0 by rw [fe, z]; rfl)))
      intro H3 M
      have hPl : H3 P0 = some (.lst (NL (partsB m))) := by
        rw [M.at_, eB]
        unfold made partsB NL
        rw [List.map_map]
        refine congrArg (fun l => some (HO.lst l)) (List.map_congr_left fun i _ => ?_)
        exact congrArg V.int (by show (1 : Int) + (i : Nat) = ((1 + i : Nat) : Int); omega)
      have sm3 := M.same
      clear M
      have ple := partsB_le m
      have nlp : (NL (partsB m)).length = (partsB m).length := List.length_map ..
      have tlen : (FM.tab cur F0).length = FM.vol cur := FM.tab_len _ _
      refine ⟨_, rfl, P0, rfl, ⟨_, SqL.of hPl⟩, fun D hD => ?_⟩
      refine lc_list (K := K) (a := P0) (xs := NL (partsB m)) (Made H3 D (fun j => lowB cur (formF cur (FM.tab cur F0)) i ((partsB m).getD j 0)) (fun j => V.int (((partsB m).getD j 0 : Nat) : Int))) (Made.start hD) (fun j H' _ M => M.same.seq (SqL.of hPl)) ?_ ?_
      · rintro j x H4 hx M
        have jl := map_lt hx
        obtain rfl := map_at (d := 0) hx
        have dp := partsB_mem (List.mem_of_getElem? (show (partsB m)[j]? = some ((partsB m).getD j 0) by rw [List.getD_eq_getElem?_getD, List.getElem?_eq_getElem jl]; rfl))
        have dle := Nat.le_of_dvd m0 dp.2
        refine ⟨rfl, _, rfl, _, rfl, _, rfl, .ref ct, bs, cur, FM.tab cur F0, i, (partsB m).getD j 0, rfl, own.same (sm3.trans M.same), TC.pos, by omega, dp.1, by omega, by omega, tlen, by omega, fun H5 bb sm5 iff => ?_⟩
        refine ⟨_, rfl, ?_⟩
        have eb : bb = lowB cur (formF cur (FM.tab cur F0)) i ((partsB m).getD j 0) := Bool.eq_iff_iff.mpr (iff.trans lowB_iff.symm)
        cases hb2 : bb with
        | true => exact iteT ⟨_, rfl, M.yes hD sm5 (by rw [← eb]; exact hb2) (by omega)⟩
        | false => exact iteF (M.no sm5 (by rw [← eb]; exact hb2))
      intro H4 M
      have lowC : (partsB m).filter (lowB cur (formF cur (FM.tab cur F0)) i) = (partsB m).filter (lowB cur F0 i) := by
        refine List.filter_congr fun d _ => ?_
        exact Bool.eq_iff_iff.mpr (lowB_iff.trans ((low_congr fun r hr => form_tab TC hr).trans lowB_iff.symm))
      have hDl : H4 D = some (.lst (NL ((partsB m).filter (lowB cur F0 i)))) := by
        rw [M.at_, nlp, ← lowC]
        unfold made NL
        refine congrArg (fun l => some (HO.lst l)) ?_
        have e : partsB m = (List.range (partsB m).length).map fun j => (partsB m).getD j 0 := by
          have h := map_range_getD (f := fun x : Nat => x) (l := partsB m) (d := 0) rfl
          rw [List.map_id'] at h
          exact h.symm
        conv => rhs; rw [e, List.filter_map, List.map_map]
        rfl
      obtain ⟨d, ds, hds⟩ := period_some TC em
      obtain ⟨d0, dm, Pd, dleast⟩ := first_least TC em hds
      rw [hds] at hDl
      refine ⟨D, _, _, V.int (d : Nat), rfl, rfl, SqL.of hDl, atI_nat (j := 0) rfl, ?_⟩
      have k4 := sm3.trans M.same
      refine ⟨_, rfl, _, rfl, ct, _, _, .ref ca, rfl, rfl, SqT.of (k4 _ _ hct), rfl, _, rfl, _, rfl, ca, cur.map fun n : Nat => (n : Int), i, (d : Int), rfl, SqL.of (by rw [nl_il]; exact k4 _ _ hca), by rw [List.length_map]; omega, fun H5 p sm5 np hp => ?_⟩
      have k5 := k4.trans sm5
      have ep : IL ((cur.map fun n : Nat => (n : Int)).set i (d : Int)) = NL (cur.set i d) := by
        rw [← nl_il, ← List.map_set]
      rw [ep] at hp
      have Pd' : FM.PdC F0 cur.length i d := Pd
      have T2 := told_set TC d0 Pd'
      have dv2 : ∀ (j a b : Nat), (cur.set i d)[j]? = some a → ms[j]? = some b → a ∣ b := fun j a b h1 h2 => by
        by_cases e : i = j
        · subst e
          rw [List.getElem?_set_self (by omega)] at h1
          rw [← Option.some.inj h1]
          exact Nat.dvd_trans dm (dv i m b em h2)
        · rw [List.getElem?_set_ne e] at h1
          exact dv j a b h1 h2
      have v2 : FM.vol (cur.set i d) ≤ FM.vol ms := vol_dvd pos (by rw [List.length_set, cl]) dv2
      refine ⟨.ref ct, p, bs, cur, cur.set i d, FM.tab cur F0, rfl, own.same k5, SqL.of hp, TC.pos, T2.pos, by rw [List.length_set], by omega, tlen, by omega, by omega, fun rs hrs => ?_, fun H6 u2 bs2 sm6 ow6 nw6 nd6 => ?_⟩
      · obtain ⟨y, hy, e⟩ := List.mem_iff_getElem.mp hrs
        obtain ⟨r, hr, e'⟩ := FM.plc_sur (show y < FM.vol cur by omega)
        have : (FM.tab cur F0)[y]? = some rs := by rw [List.getElem?_eq_getElem hy, e]
        rw [← e', FM.tab_at hr] at this
        rw [← Option.some.inj this]
        exact pok _ (memF r (by rw [FM.rest_len hr, cl]))
      · have et : FM.tab (cur.set i d) (formF cur (FM.tab cur F0)) = FM.tab (cur.set i d) F0 := FM.tab_ext fun r hr => form_tab TC (by rw [FM.rest_len hr, List.length_set])
        rw [et] at ow6
        refine ⟨u2, bs2, cur.set i d, _, _, _, _, rfl, sm2.trans (k5.trans sm6), ow6, fun z hz => (sm1.trans (sm2.trans k5)).free (nw6 z hz), by rw [List.length_set, cl], T2, dv2, fun j m' hj hm' q hq Pq => ?_⟩
        by_cases e : i = j
        · subst e
          rw [List.getElem?_set_self (by omega)] at hm'
          rw [← Option.some.inj hm']
          exact dleast q hq (by rw [cl]; exact Pq)
        · rw [List.getElem?_set_ne e] at hm'
          exact low j m' (by omega) hm' q hq Pq
    · rintro σ H2 ⟨u, bs, cur, x2, x3, x4, x5, rfl, sm2, own, nwO, cl, TC, dv, low⟩
      refine ⟨_, rfl, q H2 u bs cur (sm1.trans sm2) (by rw [← hF0]; exact own) nwO ?_ cl⟩
      rw [← hF0]
      refine FM.least_of fun i m hm => ⟨TC.pos m (List.mem_of_getElem? hm), TC.perI hm, fun q hq Pq => ?_⟩
      have il := (List.getElem?_eq_some_iff.mp hm).1
      rw [cl] at Pq
      exact low i m (by omega) hm q hq Pq
end
end K09

set_option Elab.async false
set_option linter.all false
set_option maxRecDepth 100000
set_option maxHeartbeats 4000000
set_option exponentiation.threshold 5000
namespace DL
open PySem L2
/-! ### a list within that is written anew -/
theorem OwnAll.edit {H : Hp} : ∀ {ds : List PyData} {xs : List V} {cs : List Addr} {i : Nat} {d : PyData}, OwnAll H ds xs cs → cs.Nodup → ds[i]? = some d → ∃ x c, xs[i]? = some x ∧ Own H d x c ∧ c.Nodup ∧ (∀ b ∈ c, b ∈ cs) ∧
    ∀ (H' : Hp) (d' : PyData), (∀ b ∈ cs, b ∉ c → ∀ o, H b = some o → H' b = some o) → Own H' d' x c → OwnAll H' (ds.set i d') xs cs
  | [], _, _, i, d, _, _, e => by simp at e
  | e :: ds, _, _, 0, d, ⟨v, vs, b1, b2, rfl, h1, h2, rfl⟩, nd, he => by
    obtain rfl := Option.some.inj he
    obtain ⟨n1, n2, n3⟩ := List.nodup_append.mp nd
    refine ⟨v, b1, rfl, h1, n1, fun b hb => List.mem_append_left _ hb, fun H' d' k o => ⟨v, vs, b1, b2, rfl, o, h2.frame fun b hb q e => ?_, rfl⟩⟩
    exact k b (List.mem_append_right _ hb) (fun z => n3 b z b hb rfl) q e
  | e :: ds, _, _, i + 1, d, ⟨v, vs, b1, b2, rfl, h1, h2, rfl⟩, nd, he => by
    obtain ⟨n1, n2, n3⟩ := List.nodup_append.mp nd
    obtain ⟨x, c, hx, ow, nc, sub, ed⟩ := OwnAll.edit (i := i) h2 n2 he
    refine ⟨x, c, hx, ow, nc, fun b hb => List.mem_append_right _ (sub b hb), fun H' d' k o => ⟨v, vs, b1, b2, rfl, h1.frame fun b hb q e => ?_, ed H' d' (fun b hb nb => k b (List.mem_append_right _ hb) nb) o, rfl⟩⟩
    exact k b (List.mem_append_left _ hb) (fun z => n3 b hb b (sub b z) rfl) q e
end DL
namespace K09
open PySem L2 DL PySem.HouseX CM
/-- the lines of a piece, one of them anew -/
def edited (rs : List Line) (j : Nat) (is' ams' : List Int) : List Line := List.zipWith Line.mk ((rs.map (·.is)).set j is') ams'
structure EditAt (H : Hp) (ns : List Nat) (qs : List (List Line)) (i j : Nat) (rs : List Line) (r : Line) (t b tp m n la : Addr) (xs ls : List V) (as : List Addr) : Prop where
  ht : ∃ a, H t = some (.tup [.ref a, .ref b])
  hb : H b = some (.lst xs)
  hx : xs[i]? = some (.ref tp)
  htp : H tp = some (.tup [.ref m, .ref n])
  hm : H m = some (.lst ls)
  hl : ls[j]? = some (.ref la)
  hla : H la = some (.lst (IL r.is))
  hn : H n = some (.lst (IL (rs.map (·.am))))
  ne : la ≠ n
  m1 : la ∈ as
  m2 : n ∈ as
  out : ∀ z ∈ [t, b, tp, m], z ≠ la ∧ z ≠ n ∧ z ∈ as
  edit : ∀ (H' : Hp) (is' ams' : List Int), H' la = some (.lst (IL is')) → H' n = some (.lst (IL ams')) → ams'.length = rs.length → (∀ z ∈ as, z ≠ la → z ≠ n → ∀ o, H z = some o → H' z = some o) → Own H' (formD ns (qs.set i (edited rs j is' ams'))) (.ref t) as
theorem lines_own {H : Hp} : ∀ {rows : List (List Int)} {ls : List V} {cs : List Addr}, OwnAll H (rows.map stD) ls cs → True := fun _ => trivial
theorem edit_at {H : Hp} {ns : List Nat} {qs : List (List Line)} {v : V} {as : List Addr} {i j : Nat} {rs : List Line} {r : Line} (ow : Own H (formD ns qs) v as) (nd : as.Nodup) (hi : qs[i]? = some rs) (hj : rs[j]? = some r) :
    ∃ t b tp m n la xs ls, v = .ref t ∧ EditAt H ns qs i j rs r t b tp m n la xs ls as := by
  obtain ⟨t, us, bs, rfl, ht, ⟨v1, us1, b1, c1, rfl, ⟨a, ys, d1, rfl, ha, oa, rfl⟩, ⟨v2, us2, b2, c2, rfl, ⟨b, xs, cs, rfl, hb, ob, rfl⟩, ⟨rfl, rfl⟩, rfl⟩, rfl⟩, rfl⟩ := ow
  obtain ⟨rfl, rfl⟩ := ints_own oa
  obtain ⟨nt, nd1⟩ := List.nodup_cons.mp nd
  obtain ⟨na, nd2, nab⟩ := List.nodup_append.mp nd1
  rw [List.append_nil] at nd2
  obtain ⟨nb, ncs⟩ := List.nodup_cons.mp nd2
  obtain ⟨x, c, hx, ox, nc, sub, ed⟩ := OwnAll.edit (i := i) ob ncs (show (qs.map pieceD)[i]? = some (pieceD rs) by rw [List.getElem?_map, hi]; rfl)
  obtain ⟨tp, us, bs, rfl, htp, ⟨w1, us1, b1, c1, rfl, ⟨m, ls, lcs, rfl, hm, ol, rfl⟩, ⟨w2, us2, b2, c2, rfl, ⟨n, ys2, d2, rfl, hn, on, rfl⟩, ⟨rfl, rfl⟩, rfl⟩, rfl⟩, rfl⟩ := ox
  obtain ⟨rfl, rfl⟩ := ints_own on
  obtain ⟨ntp, nc1⟩ := List.nodup_cons.mp nc
  obtain ⟨nml, nn, nmn⟩ := List.nodup_append.mp nc1
  obtain ⟨nm, nls⟩ := List.nodup_cons.mp nml
  have erows : (rs.map fun r : Line => PyData.list (r.is.map PyData.int)) = (rs.map (·.is)).map stD := by
    rw [List.map_map]
    rfl
  have ol' : OwnAll H ((rs.map (·.is)).map stD) ls lcs := by rw [← erows]; exact ol
  obtain ⟨y, cl, hy, oy, ncl, subl, edl⟩ := OwnAll.edit (i := j) ol' nls (show ((rs.map (·.is)).map stD)[j]? = some (stD r.is) by rw [List.getElem?_map, List.getElem?_map, hj]; rfl)
  obtain ⟨la, rfl, hla, rfl⟩ := own_st oy
  have lcl : la ∈ lcs := subl la (by simp)
  have mem : ∀ z ∈ tp :: ((m :: lcs) ++ ([n] ++ [])), z ∈ cs := sub
  have nin : n ∈ tp :: ((m :: lcs) ++ ([n] ++ [])) := by simp
  have lin : la ∈ tp :: ((m :: lcs) ++ ([n] ++ [])) := by simp [lcl]
  have min_ : m ∈ tp :: ((m :: lcs) ++ ([n] ++ [])) := by simp
  have tin : tp ∈ tp :: ((m :: lcs) ++ ([n] ++ [])) := by simp
  have inAs : ∀ z ∈ cs, z ∈ t :: ([a] ++ ((b :: cs) ++ [])) := fun z hz => by simp [hz]
  have ln : la ≠ n := fun e => nmn la (by simp [lcl]) n (by simp) e
  refine ⟨t, b, tp, m, n, la, xs, ls, rfl, ⟨⟨a, ht⟩, hb, hx, htp, hm, hy, hla, hn, ln, inAs _ (mem _ lin), inAs _ (mem _ nin), fun z hz => ?_, fun H' is' ams' h1 h2 hlen k => ?_⟩⟩
  · have tcs : t ∉ cs := fun z => nt (by simp [z])
    have bcs : b ∉ cs := nb
    simp only [List.mem_cons, List.not_mem_nil, or_false] at hz
    rcases hz with rfl | rfl | rfl | rfl
    · exact ⟨fun e => tcs (e ▸ mem _ lin), fun e => tcs (e ▸ mem _ nin), by simp⟩
    · exact ⟨fun e => bcs (e ▸ mem _ lin), fun e => bcs (e ▸ mem _ nin), by simp⟩
    · exact ⟨fun e => ntp (by rw [e]; simp [lcl]), fun e => ntp (by rw [e]; simp), inAs _ (mem _ tin)⟩
    · exact ⟨fun e => nm (e ▸ lcl), fun e => nmn _ List.mem_cons_self n (by simp) e, inAs _ (mem _ min_)⟩
  · have tcs : t ∉ cs := fun z => nt (by simp [z])
    have acs : a ∉ cs := fun z => nab a (by simp) a (by simp [z]) rfl
    have kt := k t (by simp) (fun e => tcs (e ▸ mem _ lin)) (fun e => tcs (e ▸ mem _ nin)) _ ht
    have ka := k a (by simp) (fun e => acs (e ▸ mem _ lin)) (fun e => acs (e ▸ mem _ nin)) _ ha
    have kb := k b (by simp) (fun e => nb (e ▸ mem _ lin)) (fun e => nb (e ▸ mem _ nin)) _ hb
    have ktp := k tp (inAs _ (mem _ tin)) (fun e => ntp (by rw [e]; simp [lcl])) (fun e => ntp (by rw [e]; simp)) _ htp
    have km := k m (inAs _ (mem _ min_)) (fun e => nm (e ▸ lcl)) (fun e => nmn _ List.mem_cons_self n (by simp) e) _ hm
    have ol2 : OwnAll H' (((rs.map (·.is)).map stD).set j (stD is')) ls lcs := edl H' (stD is') (fun z hz nz o e => k z (inAs _ (mem _ (by simp [hz]))) (fun q => nz (by simp [q])) (fun q => nmn z (by simp [hz]) n (by simp) q) o e) (st_own h1)
    have es : ((rs.map (·.is)).map stD).set j (stD is') = (((rs.map (·.is)).set j is')).map stD := List.map_set.symm
    rw [es] at ol2
    have lz : ((rs.map (·.is)).set j is').length = ams'.length := by rw [List.length_set, List.length_map, hlen]
    have op : Own H' (pieceD (edited rs j is' ams')) (.ref tp) (tp :: ((m :: lcs) ++ ([n] ++ []))) := by
      unfold edited
      rw [pieceD_zip lz]
      exact ⟨tp, _, _, rfl, ktp, ⟨_, _, m :: lcs, _, rfl, ⟨m, ls, lcs, rfl, km, ol2, rfl⟩, ⟨_, _, [n], [], rfl, ⟨n, _, [], rfl, h2, own_ints _, rfl⟩, ⟨rfl, rfl⟩, rfl⟩, rfl⟩, rfl⟩
    have oc := ed H' (pieceD (edited rs j is' ams')) (fun z hz nz o e => k z (inAs _ hz) (fun q => nz (q ▸ lin)) (fun q => nz (q ▸ nin)) o e) op
    have ep : (qs.map pieceD).set i (pieceD (edited rs j is' ams')) = (qs.set i (edited rs j is' ams')).map pieceD := List.map_set.symm
    rw [ep] at oc
    exact ⟨t, _, _, rfl, kt, ⟨_, _, [a], _, rfl, ⟨a, _, [], rfl, ka, own_ints _, rfl⟩, ⟨_, _, b :: cs, [], rfl, ⟨b, xs, cs, rfl, kb, oc, rfl⟩, ⟨rfl, rfl⟩, rfl⟩, rfl⟩, rfl⟩
theorem edited_wid {n c : Nat} {rs : List Line} {j : Nat} {is' ams' : List Int} (w : WidC n c rs) (l1 : is'.length = n) (l2 : ams'.length = rs.length) : WidC n c (edited rs j is' ams') := by
  have lz : ((rs.map (·.is)).set j is').length = ams'.length := by rw [List.length_set, List.length_map, l2]
  obtain ⟨h1, h2⟩ := zip_lines lz
  refine ⟨fun r hr => ?_, ?_⟩
  · have : r.is ∈ (rs.map (·.is)).set j is' := by rw [← h1]; exact List.mem_map.mpr ⟨r, hr, rfl⟩
    rcases List.mem_or_eq_of_mem_set this with z | z
    · obtain ⟨s, hs, e⟩ := List.mem_map.mp z
      rw [← e]
      exact w.1 s hs
    · rw [z]; exact l1
  · unfold edited
    rw [List.length_zipWith, lz, l2, w.2, Nat.min_self]
theorem edited_is {rs : List Line} {j : Nat} {is' ams' : List Int} (l2 : ams'.length = rs.length) {r : Line} (hr : r ∈ edited rs j is' ams') : (r.is = is' ∨ ∃ s ∈ rs, r.is = s.is) ∧ r.am ∈ ams' := by
  have lz : ((rs.map (·.is)).set j is').length = ams'.length := by rw [List.length_set, List.length_map, l2]
  obtain ⟨h1, h2⟩ := zip_lines lz
  refine ⟨?_, by
    have q : r.am ∈ (List.zipWith Line.mk ((rs.map (·.is)).set j is') ams').map (·.am) := List.mem_map.mpr ⟨r, hr, rfl⟩
    rw [h2] at q
    exact q⟩
  have : r.is ∈ (rs.map (·.is)).set j is' := by rw [← h1]; exact List.mem_map.mpr ⟨r, hr, rfl⟩
  rcases List.mem_or_eq_of_mem_set this with z | z
  · obtain ⟨s, hs, e⟩ := List.mem_map.mp z
    exact .inr ⟨s, hs, e.symm⟩
  · exact .inl z
end K09

set_option Elab.async false
set_option linter.all false
set_option maxRecDepth 100000
set_option maxHeartbeats 4000000
set_option exponentiation.threshold 5000
namespace K09
open PySem L2 DL PySem.HouseX CM
def spSame (n : Nat) : Sp := fun vs H Q _ => ∃ (d : PyData) (v u : V) (as bs : List Addr), vs = [v, u] ∧ Own H d v as ∧ as.Nodup ∧ Own H d u bs ∧ d.depth ≤ n ∧ nodes d ≤ 80000 ∧ Fit d ∧
  ∀ H', (∀ b, b ∉ as → ∀ o, H b = some o → H' b = some o) → Q (.bl true) H'
def spRanks (n : Nat) : Sp := fun vs H Q _ => ∃ (d : PyData) (v : V) (as : List Addr) (r : Addr) (k : Int), vs = [v, .ref r] ∧ Own H d v as ∧ d.depth ≤ n ∧ nodes d ≤ 1000000 ∧ (r :: as).Nodup ∧ H r = some (.lst [.int k]) ∧
  ∀ H', H' r = some (.lst [.int (grow d k).2]) → Own H' (grow d k).1 v as → (∀ b, b ≠ r → b ∉ as → ∀ o, H b = some o → H' b = some o) → Q .non H'
theorem kind_of {K : PySem.W.Frag} {H : Hp} {a : Addr} {xs : List V} (ha : H a = some (.lst xs) ∨ H a = some (.tup xs)) :
    ∃ (t : Value) (c : Bool), (∀ H' : Hp, H' a = H a → TyX K H' (.ref a) t) ∧ PySem.W.kitAny K t [.type "list", .type "tuple"] = some true ∧ PySem.W.kitOne K t (.type "list") = some c ∧ (c = true → H a = some (.lst xs)) ∧ (c = false → H a = some (.tup xs)) := by
  rcases ha with ha | ha
  · exact ⟨.type "list", true, fun H' e => .base (.lst (e.trans ha)), kitAny_cons (b := true) (kit_ty (by decide +kernel)) (fun z => nomatch z) (fun _ => rfl), kit_ty (by decide +kernel), fun _ => ha, (fun z => Bool.noConfusion z)⟩
  · exact ⟨.type "tuple", false, fun H' e => .base (.tup (e.trans ha)), kitAny_cons (b := false) (kit_ty (by decide +kernel)) (fun _ => kitAny_cons (b := true) (kit_ty (by decide +kernel)) (fun z => nomatch z) (fun _ => rfl)) (fun z => nomatch z), kit_ty (by decide +kernel), (fun z => Bool.noConfusion z), fun _ => ha⟩
theorem deep_of {H : Hp} {d : PyData} {v : V} {as : List Addr} {n : Nat} (h : Own H d v as) (h0 : ¬ d.depth = 0) (hn : d.depth ≤ n + 1 := by assumption) (hz : nodes d ≤ 1000000 := by assumption) :
    ∃ (a : Addr) (xs : List V) (bs : List Addr) (ds : List PyData), v = .ref a ∧ (H a = some (.lst xs) ∨ H a = some (.tup xs)) ∧ OwnAll H ds xs bs ∧ as = a :: bs ∧ PyData.depthAll ds ≤ n ∧ nodesAll ds + 1 ≤ 1000000 ∧ ((H a = some (.lst xs) → d = .list ds) ∧ (H a = some (.tup xs) → d = .tuple ds)) := by
  cases d with
  | none => exact absurd rfl h0
  | bool b => exact absurd rfl h0
  | int i => exact absurd rfl h0
  | str x => exact absurd rfl h0
  | dict m => exact h.elim
  | list ds =>
    obtain ⟨a, xs, bs, rfl, ha, hr, rfl⟩ := h
    refine ⟨a, xs, bs, ds, rfl, .inl ha, hr, rfl, ?_, hz, fun _ => rfl, fun z => ?_⟩
    · simp only [PyData.depth] at hn
      omega
    · rw [ha] at z
      cases z
  | tuple ds =>
    obtain ⟨a, xs, bs, rfl, ha, hr, rfl⟩ := h
    refine ⟨a, xs, bs, ds, rfl, .inr ha, hr, rfl, ?_, hz, fun z => ?_, fun _ => rfl⟩
    · simp only [PyData.depth] at hn
      omega
    · rw [ha] at z
      cases z
section
variable {P : Program} {w : World} {K : PySem.W.Frag} {mg : Str → Option Value} {base : Heap}
structure TxtRanks (mg : Str → Option Value) (f : Addr) : Prop where
  isi : mg "isinstance" = none
  list : mg "list" = none
  tuple : mg "tuple" = none
  g : mg "_law_hd_ranks" = some (.ref f)
theorem scRanks : FnScope ["_law_thing", "_law_ranks", "_law_part"] ["_law_thing", "_law_ranks"] (defScope sRanks) := ⟨rfl, rfl, rfl, by decide +kernel, rfl, by decide +kernel, by decide +kernel⟩
theorem ok_Ranks0 {f : Addr} {fd : FuncData} (F : Fun K "_law_hd_ranks" "_law_hd_ranks" sRanks f fd) (T : TxtRanks mg f) : FnOk P w K mg base CX0 1 f fd ["_law_thing", "_law_ranks"] (spRanks 0) := by
  refine F.ok scRanks (fun vs H Q E h => ?_) (fun cdv A outer s H vs Q E hr h => ?_)
  · obtain ⟨d, v, as, r, k, rfl, _⟩ := h
    rfl
  · obtain ⟨d, v, as, r, k, rfl, hd, hn, hz, nd, h1, q⟩ := h
    have h0 : d.depth = 0 := by omega
    refine ⟨_, pss_cons (ps_if (pt_val (pe_callB call_isiT (by rfl) T.isi (by decide +kernel) (pa_cons (pv 0) (pa_cons (pe_tup (pa_cons (pe_bltn (v := .ty "list") (by rfl) T.list (by decide +kernel) rfl) (pa_cons (pe_bltn (v := .ty "tuple") (by rfl) T.tuple (by decide +kernel) rfl) pa_nil))) pa_nil)))) (pss_one ps_never) pss_nil) (pss_one (ps_if (pt_val (pe_callB call_isi (by rfl) T.isi (by decide +kernel) (pa_cons (pv 0) (pa_cons (pe_bltn (v := .ty "list") (by rfl) T.list (by decide +kernel) rfl) pa_nil)))) (pss_cons ps_never (pss_one ps_never)) pss_nil)), ?_⟩
    refine ⟨_, rfl, (by show 2 ≤ sizeLine; decide), fun tp htp => ?_⟩
    obtain ⟨t, ty, a1, a2⟩ := flat_kind (K := K) (hd.same (same_new (o := .tup [.ty "list", .ty "tuple"]) htp)) h0
    refine ⟨_, tp, _, t, _, false, rfl, upd_same, .cons (.ty _) (.cons (.ty _) .nil), ty, kitAny_cons a1 (fun _ => kitAny_cons a2 (fun _ => rfl) (fun z => z)) (fun z => z), _, rfl, iteF ?_⟩
    refine ⟨_, rfl, _, _, t, _, false, rfl, .ty _, ty, a1, _, rfl, iteF ?_⟩
    have g := grow_flat h0 k
    refine q _ (by rw [g]; exact (upd_ne (ne_of_none h1 htp)).trans h1) (by rw [g]; exact hd.same (same_new htp)) fun b _ _ o e => (upd_ne (ne_of_none e htp)).trans e
theorem ok_Ranks {f : Addr} {fd : FuncData} (F : Fun K "_law_hd_ranks" "_law_hd_ranks" sRanks f fd) (T : TxtRanks mg f) (b : Binds K fd ["_law_thing", "_law_ranks"] []) : ∀ n, FnOk P w K mg base CX0 (n + 1) f fd ["_law_thing", "_law_ranks"] (spRanks n)
  | 0 => ok_Ranks0 F T
  | n + 1 => by
    have G := ok_Ranks F T b n
    refine F.ok scRanks (fun vs H Q E h => ?_) (fun cdv A outer s H vs Q E hr h => ?_)
    · obtain ⟨d, v, as, r, k, rfl, _⟩ := h
      rfl
    · obtain ⟨d, v, as, r, k, rfl, hd, hn, hz, nd, h1, q⟩ := h
      refine ⟨_, pss_cons (ps_if (pt_val (pe_callB call_isiT (by rfl) T.isi (by decide +kernel) (pa_cons (pv 0) (pa_cons (pe_tup (pa_cons (pe_bltn (v := .ty "list") (by rfl) T.list (by decide +kernel) rfl) (pa_cons (pe_bltn (v := .ty "tuple") (by rfl) T.tuple (by decide +kernel) rfl) pa_nil))) pa_nil))))
          (pss_one (ps_for PassesOwn.never rfl (pi_list (pe_callTy call_list_of (by rfl) T.list (by decide +kernel) (pa_cons (pv 0) pa_nil))) (pg_name (i := 2) scRanks.nd rfl (Or.inl rfl))
            (pss_one (ps_expr (pe_call G hr rfl T.g F.kp b .nil pass0 (pa_cons (pv 2) (pa_cons (pv 1) pa_nil))))))) pss_nil)
        (pss_one (ps_if (pt_val (pe_callB call_isi (by rfl) T.isi (by decide +kernel) (pa_cons (pv 0) (pa_cons (pe_bltn (v := .ty "list") (by rfl) T.list (by decide +kernel) rfl) pa_nil))))
          (pss_cons (ps_expr (pe_bm PySem.F.plainAttrs_list PySem.F.slot_list_append PySem.F.type_list_append mt_append (pv 0) (pa_cons (pe_ix ix_list (pv 1) pe_int (fun _ _ => rfl)) pa_nil)))
            (pss_one (ps_asg (pe_op op_add (pe_ix ix_list (pv 1) pe_int (fun _ _ => rfl)) pe_int) (pg_sub (pv 1) pe_int set_list)))) pss_nil)), ?_⟩
      refine ⟨_, rfl, (by show 2 ≤ sizeLine; decide), fun tp htp => ?_⟩
      by_cases h0 : d.depth = 0
      · obtain ⟨t, ty, a1, a2⟩ := flat_kind (K := K) (hd.same (same_new (o := .tup [.ty "list", .ty "tuple"]) htp)) h0
        refine ⟨_, tp, _, t, _, false, rfl, upd_same, .cons (.ty _) (.cons (.ty _) .nil), ty, kitAny_cons a1 (fun _ => kitAny_cons a2 (fun _ => rfl) (fun z => z)) (fun z => z), _, rfl, iteF ?_⟩
        refine ⟨_, rfl, _, _, t, _, false, rfl, .ty _, ty, a1, _, rfl, iteF ?_⟩
        have g := grow_flat h0 k
        exact q _ (by rw [g]; exact (upd_ne (ne_of_none h1 htp)).trans h1) (by rw [g]; exact hd.same (same_new htp)) fun b _ _ o e => (upd_ne (ne_of_none e htp)).trans e
      · obtain ⟨a, xs, bs, ds, rfl, ha, hown, rfl, hdep, hnod, hsort⟩ := deep_of hd h0
        have hl : xs.length = ds.length := hown.len
        have hln := len_nodes ds
        obtain ⟨hrn, nd2⟩ := List.nodup_cons.mp nd
        obtain ⟨han, ndf⟩ := List.nodup_cons.mp nd2
        have hra : r ≠ a := fun e => hrn (by rw [e]; exact List.mem_cons_self)
        have hrf : r ∉ bs := fun e => hrn (List.mem_cons_of_mem _ e)
        obtain ⟨t, c, ty, a1, a2, cT, cF⟩ := kind_of (K := K) ha
        have hA : ∃ o, H a = some o := by
          rcases ha with e | e
          · exact ⟨_, e⟩
          · exact ⟨_, e⟩
        obtain ⟨oa, eoa⟩ := hA
        have hsq : ∀ {H' : Hp}, H' a = H a → SqL K H' a xs ∨ SqT K H' a xs := fun {H'} e => by
          rcases ha with z | z
          · exact .inl (SqL.of (e.trans z))
          · exact .inr (SqT.of (e.trans z))
        have eA1 : upd H tp (.tup [.ty "list", .ty "tuple"]) a = H a := upd_ne (ne_of_none eoa htp)
        refine ⟨_, tp, _, t, _, true, rfl, upd_same, .cons (.ty _) (.cons (.ty _) .nil), ty _ eA1, a1, _, rfl, iteT ?_⟩
        refine ⟨_, rfl, a, xs, rfl, hsq eA1, fun l hl0 => ⟨l, rfl, ⟨_, SqL.of upd_same⟩, ?_⟩⟩
        have keep1 : Same H (upd (upd H tp (.tup [.ty "list", .ty "tuple"])) l (.lst xs)) := (same_new htp).trans (same_new hl0)
        have hlr : l ≠ r := fun e => by
          have z := same_new (o := .tup [.ty "list", .ty "tuple"]) htp r _ h1
          rw [← e, hl0] at z
          cases z
        have hlb : l ∉ bs := (hown.same (same_new (o := .tup [.ty "list", .ty "tuple"]) htp)).not hl0
        refine for_list (K := K) (a := l) (xs := xs) (fun i σ H' => ∃ (vp : Option V) (as1 as2 : List Addr), σ = [some (.ref a), some (.ref r), vp] ∧ H' l = some (.lst xs) ∧ H' a = H a ∧ bs = as1 ++ as2 ∧
            OwnAll H' (growAll (ds.take i) k).1 (xs.take i) as1 ∧ OwnAll H' (ds.drop i) (xs.drop i) as2 ∧ H' r = some (.lst [.int (growAll (ds.take i) k).2]) ∧
            (∀ b, b ≠ r → b ∉ bs → ∀ o, upd (upd H tp (.tup [.ty "list", .ty "tuple"])) l (.lst xs) b = some o → H' b = some o))
          ⟨none, [], bs, rfl, upd_same, ?_, rfl, ⟨rfl, rfl⟩, hown.same keep1, keep1 _ _ h1, fun b _ _ o e => e⟩ (fun i σ H' _ ⟨vp, as1, as2, _, e, _⟩ => SqL.of e) ?_ ?_
        · rw [keep1 _ _ eoa, eoa]
        · rintro i x σ H' hi ⟨vp, as1, as2, rfl, hlst, hae, rfl, o1, o2, hre, hfr⟩
          have hil : i < xs.length := (List.getElem?_eq_some_iff.mp hi).1
          have e1 : ds[i]? = some ds[i] := List.getElem?_eq_getElem (by omega)
          rw [List.drop_eq_getElem_cons (by omega : i < ds.length)] at o2
          obtain ⟨x', vs', b1, c1, ex, ow, o3, rfl⟩ := o2
          rw [List.drop_eq_getElem_cons hil] at ex
          injection ex with ex1 ex2
          have exx : x = x' := by
            rw [← ex1]
            exact (Option.some.inj ((List.getElem?_eq_getElem hil).symm.trans hi)).symm
          subst exx ex2
          obtain ⟨n1, n2, n3⟩ := List.nodup_append.mp ndf
          obtain ⟨n4, n5, n6⟩ := List.nodup_append.mp n2
          have hrb : r ∉ b1 := fun e => hrf (List.mem_append_right _ (List.mem_append_left _ e))
          refine ⟨_, rfl, _, rfl, ds[i], x, b1, r, _, rfl, ow, Nat.le_trans (depth_at e1) hdep, Nat.le_trans (nodes_at e1) (by omega), List.nodup_cons.mpr ⟨hrb, n4⟩, hre, fun H'' q3 q4 q5 => ?_⟩
          have step := growAll_snoc (ds.take i) ds[i] k
          rw [← take_more e1] at step
          refine ⟨_, as1 ++ b1, c1, rfl, q5 l hlr (fun z => hlb (List.mem_append_right _ (List.mem_append_left _ z))) _ hlst, ?_, by rw [List.append_assoc], ?_, ?_, ?_, fun b hb1 hb2 o e => q5 b hb1 (fun z => hb2 (List.mem_append_right _ (List.mem_append_left _ z))) o (hfr b hb1 hb2 o e)⟩
          · rw [← hae]
            have z := hae.trans eoa
            rw [q5 a (Ne.symm hra) (fun e => han (List.mem_append_right _ (List.mem_append_left _ e))) _ z, z]
          · rw [step, take_more hi]
            exact (o1.frame fun b hb o e => q5 b (fun z => hrf (by rw [← z]; exact List.mem_append_left _ hb)) (fun z => n3 b hb b (List.mem_append_left _ z) rfl) o e).snoc q4
          · exact o3.frame fun b hb o e => q5 b (fun z => hrf (by rw [← z]; exact List.mem_append_right _ (List.mem_append_right _ hb))) (fun z => n6 b z b hb rfl) o e
          · rw [step]
            exact q3
        · rintro σ H' ⟨vp, as1, as2, rfl, hlst, hae, rfl, o1, o2, hre, hfr⟩
          rw [hl, List.take_length, ← hl, List.take_length] at o1
          rw [List.drop_of_length_le (by omega), List.drop_length] at o2
          obtain ⟨_, rfl⟩ := o2
          rw [hl, List.take_length] at hre
          rw [List.append_nil] at *
          have hfr2 : ∀ b, b ≠ r → b ∉ a :: as1 → ∀ o, H b = some o → H' b = some o := fun b x1 x2 o e => hfr b x1 (fun z => x2 (List.mem_cons_of_mem _ z)) o (keep1 b o e)
          refine ⟨_, rfl, _, _, t, _, c, rfl, .ty _, ty _ hae, a2, _, rfl, ?_⟩
          cases hc : c with
          | false =>
            refine iteF ?_
            obtain rfl := hsort.2 (cF hc)
            exact q H' (by simpa [grow] using hre) (by simp only [grow]; exact ⟨a, xs, as1, rfl, hae.trans (cF hc), o1, rfl⟩) hfr2
          | true =>
            refine iteT ?_
            obtain rfl := hsort.1 (cT hc)
            have hal : H' a = some (.lst xs) := hae.trans (cT hc)
            refine ⟨_, rfl, .inl ⟨rfl, _, SqL.of hal⟩, _, rfl, r, _, _, _, rfl, rfl, SqL.of hre, rfl, a, _, _, rfl, rfl, hal, Nat.lt_of_le_of_lt (show xs.length ≤ 1000001 by omega) (by decide), ?_⟩
            have hr2 : upd H' a (.lst (xs ++ [.int (growAll ds k).2])) r = some (.lst [.int (growAll ds k).2]) := (upd_ne hra).trans hre
            refine ⟨_, rfl, r, _, _, _, rfl, rfl, SqL.of hr2, rfl, _, _, rfl, rfl, _, rfl, r, _, _, 0, rfl, rfl, hr2, rfl, ?_⟩
            refine q _ (by simp only [grow]; exact upd_same) ?_ fun b x1 x2 o e => (upd_ne x1).trans ((upd_ne (fun z => x2 (by rw [z]; exact List.mem_cons_self))).trans (hfr2 b x1 x2 o e))
            simp only [grow]
            have o4 := ((o1.put (p := a) (o := .lst (xs ++ [.int (growAll ds k).2])) han).put (p := r) (o := .lst [.int ((growAll ds k).2 + 1)]) hrf).snoc (d := .int (growAll ds k).2) (v := .int (growAll ds k).2) (bs := []) ⟨rfl, rfl⟩
            rw [List.append_nil] at o4
            exact ⟨a, _, as1, rfl, (upd_ne (Ne.symm hra)).trans upd_same, o4, rfl⟩

structure TxtSame (mg : Str → Option Value) (fC fR : Addr) : Prop where
  repr : mg "repr" = none
  gC : mg "_law_hd_copy" = some (.ref fC)
  gR : mg "_law_hd_ranks" = some (.ref fR)
theorem scSame : FnScope ["_law_answer", "_law_due", "_law_owed"] ["_law_answer", "_law_due"] (defScope sSame) := ⟨rfl, rfl, rfl, by decide +kernel, rfl, by decide +kernel, by decide +kernel⟩
theorem ok_Same {f fC fR : Addr} {fd fdC fdR : FuncData} (n : Nat) (hn0 : n ≤ 50) (F : Fun K "_law_hd_same" "_law_hd_same" sSame f fd) (T : TxtSame mg fC fR)
    (GC : FnOk P w K mg base CX0 (n + 1) fC fdC ["_law_thing"] (spCopy n)) (kC : PySem.W.keepIn K (.ref fC) = true) (bC : Binds K fdC ["_law_thing"] [])
    (GR : FnOk P w K mg base CX0 (n + 1) fR fdR ["_law_thing", "_law_ranks"] (spRanks n)) (kR : PySem.W.keepIn K (.ref fR) = true) (bR : Binds K fdR ["_law_thing", "_law_ranks"] []) : FnG P w K mg base (n + 2) f fd ["_law_answer", "_law_due"] (spSame n) := by
  refine F.okG scSame (fun vs H Q E h => ?_) (fun cdv A outer s H vs Q E hgd hr h => ?_)
  · obtain ⟨d, v, u, as, bs, rfl, _⟩ := h
    rfl
  · obtain ⟨d, v, u, as, bs, rfl, ov, nda, ou, hdep, hnod, hfit, q⟩ := h
    have hu : (A.deeper (PyProof.Rows.envOfC "_law_hd_same" (defScope sSame) s.heap.objs.size f cdv)).units + 65 < cLine := by
      have := hr.un
      omega
    refine ⟨_, pss_cons (ps_set (i := 2) scSame.nd rfl (Or.inl rfl) (pe_call GC hr rfl T.gC kC bC .nil pass0 (pa_cons (pv 1) pa_nil)))
      (pss_cons (ps_if (pt_cmpR op_ne (pe_callB (call_repr hgd hu) (by rfl) T.repr (by decide +kernel) (pa_cons (pv 0) pa_nil)) (pe_callB (call_repr hgd hu) (by rfl) T.repr (by decide +kernel) (pa_cons (pv 2) pa_nil)) (nomark _)) (pss_one (ps_ret pe_bl)) pss_nil)
      (pss_cons (ps_expr (pe_call GR hr rfl T.gR kR bR .nil pass0 (pa_cons (pv 0) (pa_cons (pe_lst (pa_cons pe_int pa_nil)) pa_nil)))) (pss_cons (ps_expr (pe_call GR hr rfl T.gR kR bR .nil pass0 (pa_cons (pv 2) (pa_cons (pe_lst (pa_cons pe_int pa_nil)) pa_nil)))) (pss_one (ps_ret (pe_cmpR op_eq (pe_callB (call_repr hgd hu) (by rfl) T.repr (by decide +kernel) (pa_cons (pv 0) pa_nil)) (pe_callB (call_repr hgd hu) (by rfl) T.repr (by decide +kernel) (pa_cons (pv 2) pa_nil)) (nomark _))))))), ?_⟩
    refine ⟨_, rfl, d, u, bs, rfl, ou, hdep, by omega, fun H1 w cs sm1 ow new1 nd1 => ?_⟩
    have ov1 := ov.same sm1
    obtain ⟨f1, f2, f3⟩ := fit_shown hfit
    obtain ⟨g1, g2, g3, g4, g5⟩ := grow_nodes d 7
    have hfit2 := g5 (by decide) (by omega) hfit
    obtain ⟨e1, e2, e3⟩ := fit_shown hfit2
    have big : 100 * 160000 ≤ sizeLine := by decide
    refine ⟨_, rfl, v, d, rfl, ov1.dp, f2, f3, by omega, by omega, _, rfl, w, d, rfl, ow.dp, f2, f3, by omega, by omega, rfl, _, rfl, ?_⟩
    have sameV : ∀ x : V, (!decide (x = x)) = false := fun x => by simp
    rw [sameV]
    refine iteF ?_
    have apart : ∀ b, b ∈ as → b ∉ cs := fun b hb hc => by
      obtain ⟨o, z⟩ := ov.has b hb
      rw [new1 b hc] at z
      cases z
    refine ⟨_, rfl, (by show 1 ≤ sizeLine; decide), fun r1 hr1 => ?_⟩
    have k2 := same_new (o := .lst [.int 7]) hr1
    refine ⟨d, v, as, r1, 7, rfl, ov1.same k2, hdep, by omega, List.nodup_cons.mpr ⟨ov1.not hr1, nda⟩, upd_same, fun H3 a1 ov3 fr3 => ?_⟩
    have ne1 : ∀ b o, H1 b = some o → b ≠ r1 := fun b o e => ne_of_none e hr1
    have ow3 : Own H3 d w cs := ow.frame fun b hb o e => fr3 b (ne1 b o e) (fun z => apart b z hb) o (k2 b o e)
    refine ⟨_, rfl, (by show 1 ≤ sizeLine; decide), fun r2 hr2 => ?_⟩
    have k4 := same_new (o := .lst [.int 7]) hr2
    refine ⟨d, w, cs, r2, 7, rfl, ow3.same k4, hdep, by omega, List.nodup_cons.mpr ⟨ow3.not hr2, nd1⟩, upd_same, fun H5 a2 ow5 fr5 => ?_⟩
    have ov5 : Own H5 (grow d 7).1 v as := ov3.frame fun b hb o e => fr5 b (ne_of_none e hr2) (apart b hb) o (k4 b o e)
    refine ⟨_, rfl, v, _, rfl, ov5.dp, e2, e3, by omega, by omega, _, rfl, w, _, rfl, ow5.dp, e2, e3, by omega, by omega, rfl, ?_⟩
    rw [decide_eq_true (rfl : V.str (grow d 7).1.shown = V.str (grow d 7).1.shown)]
    refine q H5 fun b hb o e => ?_
    have b1 := sm1 b o e
    have nc : b ∉ cs := fun z => by
      have y := new1 b z
      rw [e] at y
      cases y
    have b3 := fr3 b (ne1 b o b1) hb o (k2 b o b1)
    exact fr5 b (ne_of_none b3 hr2) nc o (k4 b o b3)
end
end K09

set_option Elab.async false
set_option linter.all false
set_option maxRecDepth 100000
set_option maxHeartbeats 4000000
set_option exponentiation.threshold 5000
namespace K09
open PySem L2 DL PySem.HouseX CM
def rLo (K : PySem.W.Frag) : List V → Hp → VK → Prop := fun xs H Q => ∃ p ys, xs = [V.ref p] ∧ (SqL K H p ys ∨ SqT K H p ys) ∧ ∀ l : Addr, H l = none → Q (.ref l) (upd H l (.lst ys))
def spChkS (K : PySem.W.Frag) : Sp := fun vs H Q _ => ∃ (a : Addr) (xs : List V), vs = [.int (xs.length : Nat), .ref a] ∧ SqL K H a xs ∧ Q .non H
def spChkI : Sp := fun vs H Q _ => ∃ i m : Nat, vs = [.int i, .int m] ∧ i < m ∧ Q .non H
def spPieceOf (K : PySem.W.Frag) : Sp := fun vs H Q _ => ∃ (v : V) (rs : List Line), vs = [v] ∧ Dp K H v (rowsD rs) ∧ rs.length ≤ 1000 ∧ ∀ H' p bs, Same H H' → Own H' (pieceD rs) (.ref p) bs → New H bs → bs.Nodup → Q (.ref p) H'
def spFormOf (K : PySem.W.Frag) : Sp := fun vs H Q _ => ∃ (r : Addr) (ls : List Nat) (es : List (List Line)), vs = [.ref r] ∧ TabAt K H r ls es ∧ (∀ rs ∈ es, rs.length ≤ 1000) ∧ ∀ H' u bs, Same H H' → Own H' (formD ls es) u bs → New H bs → bs.Nodup → Q u H'
def spLeast (K : PySem.W.Frag) : Sp := fun vs H Q _ => ∃ (v : V) (n c : Nat) (ms : List Nat) (ps : List (List Line)), vs = [v] ∧ Dp K H v (formD ms ps) ∧ FK n c ms ps ∧
  ∀ H' u bs ls, Same H H' → Own H' (formD ls (FM.tab ls (formF ms ps))) u bs → New H bs → bs.Nodup → FM.LeastT (formF ms ps) ls → ls.length = ms.length → Q u H'
structure TxtP1 (mg : Str → Option Value) (fPR fC fT fF : Addr) : Prop where
  len : mg "len" = none
  list : mg "list" = none
  gPR : mg "piece_of_rows" = some (.ref fPR)
  gC : mg "check_form" = some (.ref fC)
  gT : mg "table_of" = some (.ref fT)
  gF : mg "form_of_table" = some (.ref fF)
section
variable {P : Program} {w : World} {K : PySem.W.Frag} {mg : Str → Option Value} {base : Heap}
theorem scChkS : FnScope ["many", "state"] ["many", "state"] (defScope sChkState) := ⟨rfl, rfl, rfl, by decide +kernel, rfl, by decide +kernel, by decide +kernel⟩
theorem ok_chks {f : Addr} {fd : FuncData} (F : Fun K "check_state" "check_state" sChkState f fd) (len : mg "len" = none) : FnOk P w K mg base CX0 1 f fd ["many", "state"] (spChkS K) := by
  have nd := scChkS.nd
  refine F.ok scChkS (fun vs H Q E h => ?_) (fun cdv A outer s H vs Q E hr h => ?_)
  · obtain ⟨_, _, rfl, _⟩ := h
    rfl
  · obtain ⟨a, xs, rfl, ha, q⟩ := h
    refine ⟨_, pss_one (ps_if (pt_cmpR op_ne (pe_callB call_len_seq (by rfl) len PySem.boot_len (pa_cons (pv 1) pa_nil)) (pv 0) (nomark _)) (pss_one ps_never) pss_nil), ?_⟩
    refine ⟨_, rfl, a, _, rfl, .inl ha, _, rfl, rfl, _, rfl, ite2 (fun h => absurd h (by simp)) (fun _ => q)⟩
theorem scChkI : FnScope ["index", "many"] ["index", "many"] (defScope sChkIndex) := ⟨rfl, rfl, rfl, by decide +kernel, rfl, by decide +kernel, by decide +kernel⟩
theorem ok_chki {f : Addr} {fd : FuncData} (F : Fun K "check_index" "check_index" sChkIndex f fd) : FnOk P w K mg base CX0 1 f fd ["index", "many"] spChkI := by
  have nd := scChkI.nd
  refine F.ok scChkI (fun vs H Q E h => ?_) (fun cdv A outer s H vs Q E hr h => ?_)
  · obtain ⟨_, _, rfl, _⟩ := h
    rfl
  · obtain ⟨i, m, rfl, im, q⟩ := h
    refine ⟨_, pss_one (ps_if (pt_not (pt_chain op_le op_lt pe_int (pv 0) (pv 1))) (pss_one ps_never) pss_nil), ?_⟩
    refine ⟨_, rfl, _, _, rfl, rfl, _, rfl, ite2 (fun _ => ?_) (fun h => absurd (decide_eq_true (show (0 : Int) ≤ (i : Nat) by omega)) h)⟩
    exact ⟨_, rfl, _, _, rfl, rfl, _, rfl, ite2 (fun h => absurd h (by simp; omega)) (fun _ => q)⟩
theorem scPieceOf : FnScope ["rows", "row"] ["rows"] (defScope sPieceOfR) := ⟨rfl, rfl, rfl, by decide +kernel, rfl, by decide +kernel, by decide +kernel⟩
theorem ok_pieceof {f : Addr} {fd : FuncData} (F : Fun K "piece_of_rows" "piece_of_rows" sPieceOfR f fd) (list : mg "list" = none) : FnOk P w K mg base CX0 1 f fd ["rows"] (spPieceOf K) := by
  have nd := scPieceOf.nd
  refine F.ok scPieceOf (fun vs H Q E h => ?_) (fun cdv A outer s H vs Q E hr h => ?_)
  · obtain ⟨_, _, rfl, _⟩ := h
    rfl
  · obtain ⟨v, rs, rfl, hv, few, q⟩ := h
    refine ⟨_, pss_one (ps_ret (pe_tup (pa_cons (pe_lc (own := [("row", 1)]) (g := gName 1) rfl nd (pi_tup (pv 0)) (blkOk_by (N := ["rows", "row"]) (sc := defScope sPieceOfR) (by decide +kernel)) (fun _ _ _ _ _ => pg_name (i := 1) nd rfl (Or.inl rfl)) (fun _ _ _ _ _ => pts_nil)
        (fun _ _ _ _ _ => pe_callTy (show CallR _ (.type "list") (rLo K) from call_list_of) (by rfl) list (by decide +kernel) (pa_cons (pe_slice (show SlR _ (rSlT K) from sl_tup) (pv 1) po_none (po_some (pe_un un_neg pe_int))) pa_nil)))
      (pa_cons (pe_lc (own := [("row", 1)]) (g := gName 1) rfl nd (pi_tup (pv 0)) (blkOk_by (N := ["rows", "row"]) (sc := defScope sPieceOfR) (by decide +kernel)) (fun _ _ _ _ _ => pg_name (i := 1) nd rfl (Or.inl rfl)) (fun _ _ _ _ _ => pts_nil)
        (fun _ _ _ _ _ => pe_ix (show IxR _ (rIxT K) from ix_tup) (pv 1) (pe_un un_neg pe_int) (fun _ _ => rfl))) pa_nil)))), ?_⟩
    unfold rowsD at hv
    cases hv with
    | @tup a xs _ hs hd =>
      have lx : xs.length = rs.length := by have := dpAll_len hd; rwa [List.length_map] at this
      refine ⟨_, rfl, a, rfl, ⟨_, hs⟩, fun D hD => ?_⟩
      refine lc_tup (K := K) (a := a) (xs := xs) (fun i H' => ∃ vs cs, Filling H H' D ((rs.take i).map fun r => stD r.is) vs cs ∧ vs.length = i) ⟨_, _, Filling.start hD, rfl⟩ (fun i H' _ ⟨_, _, Fl, _⟩ => sqT_same Fl.same hs) ?_ ?_
      · rintro i x H1 hx ⟨vs, cs, Fl, hvl⟩
        obtain ⟨d, hd1, hd2⟩ := dpAll_get hd hx
        rw [List.getElem?_map] at hd1
        obtain ⟨r, er, rfl⟩ := Option.map_eq_some_iff.mp hd1
        obtain ⟨ra, rfl, sr⟩ := dp_line hd2
        have il := (List.getElem?_eq_some_iff.mp er).1
        have l1 : (IL r.row).length = r.is.length + 1 := by
          show (List.map _ (r.is ++ [r.am])).length = _
          rw [List.length_map, List.length_append]
          rfl
        have e : IL r.row = IL r.is ++ [V.int r.am] := by
          unfold IL Line.row
          rw [List.map_append]
          rfl
        have l2 : (IL r.is).length = r.is.length := List.length_map ..
        have hx1 : HT.sIx (IL r.row).length (IL r.row).length (some (-1)) = r.is.length := by
          show (if (-1 : Int) < 0 then ((-1 : Int) + ((IL r.row).length : Nat)).toNat else min (-1 : Int).toNat (IL r.row).length) = _
          rw [if_pos (by decide), l1]
          omega
        have cut : cutV (IL r.row) none (some (-1)) = IL r.is := by
          unfold cutV
          rw [hx1, show HT.sIx (IL r.row).length 0 none = 0 from rfl, Nat.sub_zero, List.drop_zero, e, List.take_left' l2]
        refine ⟨rfl, _, rfl, _, rfl, _, rfl, ra, _, rfl, sqT_same Fl.same sr, fun ⟨_, z⟩ => by rw [hx1, l1] at z; omega, fun p1 hp1 => ?_⟩
        rw [cut]
        have z1 := same_new (o := .tup (IL r.is)) hp1
        refine ⟨p1, _, rfl, .inr (SqT.of upd_same), fun p2 hp2 => ?_⟩
        have z2 := same_new (o := .lst (IL r.is)) hp2
        refine ⟨vs, (z1.trans z2) _ _ Fl.at_, Nat.lt_of_le_of_lt (show vs.length ≤ 1000 by omega) (by decide), vs ++ [.ref p2], cs ++ [p2], ?_, by rw [List.length_append, hvl]; rfl⟩
        rw [List.take_add_one, er, List.map_append]
        exact Fl.more hD (z1.trans z2) (st_own upd_same) (fun b hb => by rw [List.mem_singleton.mp hb]; exact z1.free hp2) (by simp)
      · rintro H1 ⟨vs, cs, Fl, hvl⟩
        rw [lx, List.take_length] at Fl
        have hs1 := sqT_same Fl.same hs
        have hd1 := dpAll_same Fl.same hd
        refine ⟨_, rfl, a, rfl, ⟨_, hs1⟩, fun E1 hE1 => ?_⟩
        refine lc_tup (K := K) (a := a) (xs := xs) (Made H1 E1 (fun _ => true) (fun i => V.int ((rs.map (·.am)).getD i 0))) (Made.start hE1) (fun i H' _ M => sqT_same M.same hs1) ?_ ?_
        · rintro i x H2 hx M
          obtain ⟨d, hd2, hd3⟩ := dpAll_get hd1 hx
          rw [List.getElem?_map] at hd2
          obtain ⟨r, er, rfl⟩ := Option.map_eq_some_iff.mp hd2
          obtain ⟨ra, rfl, sr⟩ := dp_line hd3
          have il := (List.getElem?_eq_some_iff.mp er).1
          have last : atI (IL r.row) (-1) = some (V.int r.am) := by
            have e : IL r.row = IL r.is ++ [V.int r.am] := by
              unfold IL Line.row
              rw [List.map_append]
              rfl
            rw [e]
            exact atI_last _ _
          have ea : r.am = (rs.map (·.am)).getD i 0 := by
            rw [List.getD_eq_getElem?_getD, List.getElem?_map, er]
            rfl
          refine ⟨rfl, _, rfl, _, rfl, ra, _, _, V.int r.am, rfl, rfl, sqT_same M.same sr, last, ?_⟩
          rw [ea]
          exact M.yes hE1 (Same.refl _) rfl (by omega)
        · intro H2 M
          have eD : H2 E1 = some (.lst (IL (rs.map (·.am)))) := by
            rw [M.at_, made_all, lx]
            exact congrArg (fun v => some (HO.lst v)) (map_range_getD (f := V.int) (l := rs.map (·.am)) (by rw [List.length_map]))
          refine ⟨(by show 2 ≤ sizeLine; decide), fun t ht => ?_⟩
          have zt := same_new (o := .tup [V.ref D, V.ref E1]) ht
          have kk := M.same.trans zt
          have fE : H E1 = none := Fl.same.free hE1
          have oD : Own (upd H2 t (.tup [V.ref D, V.ref E1])) (matD rs) (.ref D) (D :: cs) := ⟨D, vs, cs, rfl, kk _ _ Fl.at_, Fl.own.same kk, rfl⟩
          have oE : Own (upd H2 t (.tup [V.ref D, V.ref E1])) (.list ((rs.map (·.am)).map PyData.int)) (.ref E1) [E1] := ⟨E1, _, [], rfl, zt _ _ eD, own_ints _, rfl⟩
          refine q _ t (t :: ((D :: cs) ++ ([E1] ++ []))) (Fl.same.trans kk) ⟨t, _, _, rfl, upd_same, ⟨_, _, D :: cs, _, rfl, oD, ⟨_, _, [E1], [], rfl, oE, ⟨rfl, rfl⟩, rfl⟩, rfl⟩, rfl⟩ ?_ ?_
          · refine New.cons ((Fl.same.trans M.same).free ht) fun b hb => ?_
            rcases List.mem_append.mp hb with z | z
            · exact (New.cons hD Fl.new) b z
            · rw [List.append_nil, List.mem_singleton] at z
              rw [z]
              exact fE
          · have f1 : t ≠ D := ne_of_none' (M.same _ _ Fl.at_) ht
            have f2 : t ≠ E1 := ne_of_none' eD ht
            have f3 : t ∉ cs := (Fl.own.same M.same).not ht
            have f4 : D ≠ E1 := fun z => by
              have := Fl.at_
              rw [z, hE1] at this
              cases this
            have f5 : E1 ∉ cs := fun z => by
              obtain ⟨o, e⟩ := Fl.own.has E1 z
              rw [hE1] at e
              cases e
            rw [List.append_nil]
            refine List.nodup_cons.mpr ⟨?_, List.nodup_append.mpr ⟨List.nodup_cons.mpr ⟨Fl.out, Fl.nd⟩, by simp, ?_⟩⟩
            · intro z
              rcases List.mem_append.mp z with z | z
              · rcases List.mem_cons.mp z with z | z
                · exact f1 z
                · exact f3 z
              · exact f2 (List.mem_singleton.mp z)
            · intro x hx y hy e
              rw [List.mem_singleton.mp hy] at e
              rcases List.mem_cons.mp hx with z | z
              · exact f4 (z.symm.trans e)
              · exact f5 (e ▸ z)
end
end K09

set_option Elab.async false
set_option linter.all false
set_option maxRecDepth 100000
set_option maxHeartbeats 4000000
namespace L2
open PySem PySem.Spec PyProof.Rows PySem.HouseX
section
variable {X : Cx}
theorem foldl_max : ∀ (xs : List Int) (x : Int), (xs.foldl (fun a y => if PySem.W.DatumOrd.lt a y = true then y else a) x ∈ x :: xs) ∧ ∀ y ∈ x :: xs, y ≤ xs.foldl (fun a y => if PySem.W.DatumOrd.lt a y = true then y else a) x
  | [], x => ⟨List.mem_cons_self, fun y hy => by
    rcases List.mem_cons.mp hy with z | z
    · rw [z]; exact Int.le_refl _
    · cases z⟩
  | z :: xs, x => by
    rw [List.foldl_cons]
    have lt_iff : (PySem.W.DatumOrd.lt x z = true) ↔ x < z := by
      show decide (x < z) = true ↔ _
      exact decide_eq_true_iff
    by_cases h : x < z
    · rw [if_pos (lt_iff.mpr h)]
      obtain ⟨h1, h2⟩ := foldl_max xs z
      refine ⟨List.mem_cons_of_mem _ h1, fun y hy => ?_⟩
      rcases List.mem_cons.mp hy with e | e
      · rw [e]
        exact Int.le_trans (Int.le_of_lt h) (h2 z List.mem_cons_self)
      · exact h2 y e
    · rw [if_neg (fun e => h (lt_iff.mp e))]
      obtain ⟨h1, h2⟩ := foldl_max xs x
      refine ⟨?_, fun y hy => ?_⟩
      · rcases List.mem_cons.mp h1 with e | e
        · rw [e]; exact List.mem_cons_self
        · exact List.mem_cons_of_mem _ (List.mem_cons_of_mem _ e)
      · rcases List.mem_cons.mp hy with e | e
        · rw [e]
          exact h2 x List.mem_cons_self
        · rcases List.mem_cons.mp e with e | e
          · rw [e]
            exact Int.le_trans (Int.not_lt.mp h) (h2 x List.mem_cons_self)
          · exact h2 y (List.mem_cons_of_mem _ e)
/-- max(t) of a tuple of integers -/
def rMaxT (K : PySem.W.Frag) : List V → Hp → VK → Prop := fun vs H Q => ∃ (a : Addr) (ns : List Int), vs = [V.ref a] ∧ SqT K H a (ns.map V.int) ∧ 0 < ns.length ∧ ∀ m, m ∈ ns → (∀ y, y ∈ ns → y ≤ m) → Q (.int m) H
theorem cr_maxT (hc : X.calm = true) (hu : X.A.units + 64 < cLine) : CallR X (.builtin "max") (rMaxT X.K) := by
  intro pins s σ H xs us Q I r1 h
  obtain ⟨a, ns, rfl, hs, hne, q⟩ := h
  rw [Vals.ref1 r1]
  obtain ⟨its, rv, hl, _⟩ := I.tuple hs
  have z : PySem.W.Datum.depth Int ≤ 32 := by decide
  have ht : s.heap.IsTuple a its.toArray := by
    obtain ⟨o, ho, hc, n, hd⟩ := hl
    first
      | exact ⟨o, ho, hc, n, hd⟩
      | exact ⟨o, n, ho, hc, hd⟩
  cases ns with
  | nil => simp at hne
  | cons y ys =>
    have hold : PySem.W.HoldAll s.heap its (y :: ys) := by
      obtain ⟨as, r⟩ := Dp.readsAll I ((y :: ys).map PyData.int) ((y :: ys).map V.int) its (dpn (y :: ys)) rv
      exact ⟨as, r⟩
    refine PySem.W.max_tuple_datum (I.ok.hd hc) ht hold (by omega) fun i v h' tk hi hv hk => ?_
    obtain ⟨m1, m2⟩ := foldl_max ys y
    have hv' : ∃ t, v = .int (PySem.W.maxOf y ys) t := by
      obtain ⟨as, r⟩ := hv
      have r' : Reads h' v (.int (PySem.W.maxOf y ys)) as := r
      cases r'
      exact ⟨_, rfl⟩
    obtain ⟨t, rfl⟩ := hv'
    exact ⟨.int _, H, I.kept hk, ⟨t, rfl⟩, q _ m1 m2⟩
/-- d not in ds, by == -/
def rNotInD (K : PySem.W.Frag) : R2 := fun x y H Q => ∃ (d : PyData) (ds : List PyData), Dp K H x d ∧ Dp K H y (.list ds) ∧ PyData.plainAll ds = true ∧ d.plain = true ∧ d.depth ≤ 60 ∧ Q (.bl (!ds.any fun z => PyData.eqv z d)) H
theorem op_notInD (hu : X.A.units + 64 < cLine) : OpR X (compareOp .NotIn) (rNotInD X.K) := by
  intro pins s σ H x y v u Q I rx ry h
  obtain ⟨d, ds, hd, hds, p1, p2, hdep, q⟩ := h
  obtain ⟨as, r1⟩ := Dp.reads I _ _ v hd rx
  obtain ⟨bs, r2⟩ := Dp.reads I _ _ u hds ry
  have := Nat.min_le_right (PyData.depthAll ds) d.depth
  exact PySem.SeqAt.notIn_list_data r2 r1 p1 p2 (by omega) ⟨.bl _, H, I, rfl, q⟩
end
end L2

set_option Elab.async false
set_option linter.all false
set_option maxRecDepth 100000
set_option maxHeartbeats 4000000
set_option exponentiation.threshold 5000
namespace K09
open PySem L2 DL PySem.HouseX CM
def spAt (K : PySem.W.Frag) : Sp := fun vs H Q _ => ∃ (v : V) (b : Addr) (n c : Nat) (ms : List Nat) (ps : List (List Line)) (st : List Int), vs = [v, .ref b] ∧ Dp K H v (formD ms ps) ∧ SqL K H b (IL st) ∧ FK n c ms ps ∧ st.length = n ∧ (∀ x ∈ st, x.natAbs ≤ 10 ^ 9) ∧
  ∀ H' p, Same H H' → H p = none → H' p = some (.lst (IL ((rowsOf ms ps st).map (·.at st)))) → Q (.ref p) H'
structure TxtP2 (mg : Str → Option Value) (fC fAc fCS fRA fRO fPl : Addr) : Prop where
  list : mg "list" = none
  gC : mg "check_form" = some (.ref fC)
  gAc : mg "accounts_in_form" = some (.ref fAc)
  gCS : mg "check_state" = some (.ref fCS)
  gRA : mg "rows_at" = some (.ref fRA)
  gRO : mg "rows_of" = some (.ref fRO)
  gPl : mg "place_of" = some (.ref fPl)
section
variable {P : Program} {w : World} {K : PySem.W.Frag} {mg : Str → Option Value} {base : Heap}
theorem scFormOf : FnScope ["table", "moduli", "pieces", "rows"] ["table"] (defScope sFormOfT) := ⟨rfl, rfl, rfl, by decide +kernel, rfl, by decide +kernel, by decide +kernel⟩
theorem ok_formof {f fP : Addr} {fd fdP : FuncData} (F : Fun K "form_of_table" "form_of_table" sFormOfT f fd) (list : mg "list" = none) (gP : mg "piece_of_rows" = some (.ref fP))
    (GP : FnOk P w K mg base CX0 1 fP fdP ["rows"] (spPieceOf K)) (kP : PySem.W.keepIn K (.ref fP) = true) (bP : Binds K fdP ["rows"] []) : FnOk P w K mg base CX0 2 f fd ["table"] (spFormOf K) := by
  have nd := scFormOf.nd
  refine F.ok scFormOf (fun vs H Q E h => ?_) (fun cdv A outer s H vs Q E hr h => ?_)
  · obtain ⟨_, _, _, rfl, _⟩ := h
    rfl
  · obtain ⟨r, ls, es, rfl, T, ok, q⟩ := h
    have hr1 : Room 1 _ := hr.mono (by decide)
    refine ⟨_, pss_cons (ps_asg (pv 0) (pg_tup rfl (pgs_cons (pg_name (i := 1) nd rfl (Or.inl rfl)) (pgs_cons (pg_name (i := 2) nd rfl (Or.inl rfl)) pgs_nil))))
      (pss_one (ps_ret (pe_tup (pa_cons (pe_callTy call_list_of (by rfl) list (by decide +kernel) (pa_cons (pv 1) pa_nil))
        (pa_cons (pe_lc (own := [("rows", 3)]) (g := gName 3) rfl nd (pi_list (pv 2)) (blkOk_by (N := ["table", "moduli", "pieces", "rows"]) (sc := defScope sFormOfT) (by decide +kernel)) (fun _ _ _ _ _ => pg_name (i := 3) nd rfl (Or.inl rfl)) (fun _ _ _ _ _ => pts_nil)
          (fun _ _ _ _ _ => pe_call GP hr1 rfl gP kP bP .nil pass0 (pa_cons (pv 3) pa_nil))) pa_nil))))), ?_⟩
    obtain ⟨⟨t, b, xs, h1, h2, h3, h4⟩, pos, el, few⟩ := T
    have xl : xs.length = es.length := by have := dpAll_len h4; rwa [List.length_map] at this
    refine ⟨_, rfl, r, _, rfl, h1, rfl, _, _, rfl, _, _, rfl, rfl, ?_⟩
    refine ⟨_, rfl, t, _, rfl, .inr h2, fun l0 hl0 => ?_⟩
    have z0 := same_new (o := .lst (NL ls)) hl0
    have e0 : upd H l0 (.lst (NL ls)) l0 = some (.lst (NL ls)) := upd_same
    generalize upd H l0 (.lst (NL ls)) = H0 at *
    refine ⟨_, rfl, b, rfl, ⟨_, z0.seq h3⟩, fun D hD => ?_⟩
    have d0 := dpAll_same z0 h4
    refine lc_list (K := K) (a := b) (xs := xs) (fun i H' => ∃ vs cs, Filling H0 H' D ((es.take i).map pieceD) vs cs ∧ vs.length = i) ⟨_, _, Filling.start hD, rfl⟩ (fun i H' _ ⟨_, _, Fl, _⟩ => (z0.trans Fl.same).seq h3) ?_ ?_
    · rintro i x H2 hx ⟨vs, cs, Fl, hvl⟩
      have il := (List.getElem?_eq_some_iff.mp hx).1
      obtain ⟨d, hd1, hd2⟩ := dpAll_get (dpAll_same Fl.same d0) hx
      rw [List.getElem?_map] at hd1
      obtain ⟨rs, er, rfl⟩ := Option.map_eq_some_iff.mp hd1
      refine ⟨rfl, _, rfl, x, rs, rfl, hd2, ok rs (List.mem_of_getElem? er), fun H3 p bs sm3 ow nw ndb => ?_⟩
      refine ⟨vs, sm3 _ _ Fl.at_, Nat.lt_of_le_of_lt (show vs.length ≤ 1000000 by omega) (by decide), vs ++ [.ref p], cs ++ bs, ?_, by rw [List.length_append, hvl]; rfl⟩
      rw [List.take_add_one, er, List.map_append]
      exact Fl.more hD sm3 ow nw ndb
    · rintro H2 ⟨vs, cs, Fl, hvl⟩
      rw [xl, List.take_length] at Fl
      refine ⟨(by show 2 ≤ sizeLine; decide), fun p hp => ?_⟩
      have zp := same_new (o := .tup [V.ref l0, V.ref D]) hp
      have l2 := Fl.same _ _ e0
      refine q _ _ _ (z0.trans (Fl.same.trans zp)) (form_own upd_same (zp _ _ l2) (zp _ _ Fl.at_) (Fl.own.same zp)) ?_ ?_
      · intro z hz
        simp only [List.append_nil, List.singleton_append, List.mem_cons] at hz
        rcases hz with rfl | rfl | rfl | hz
        · exact (z0.trans Fl.same).free hp
        · exact hl0
        · exact z0.free hD
        · exact z0.free (Fl.new z hz)
      · have f1 : p ≠ l0 := ne_of_none' l2 hp
        have f2 : p ≠ D := ne_of_none' Fl.at_ hp
        have f3 : p ∉ cs := Fl.own.not hp
        have f4 : l0 ≠ D := fun z => by
          rw [z] at e0
          rw [hD] at e0
          cases e0
        have f5 : l0 ∉ cs := fun z => by
          have := Fl.new l0 z
          rw [e0] at this
          cases this
        simp only [List.append_nil, List.singleton_append, List.nodup_cons, List.mem_cons, not_or]
        exact ⟨⟨f1, f2, f3⟩, ⟨f4, f5⟩, Fl.out, Fl.nd⟩
theorem scLeast : FnScope ["form"] ["form"] (defScope sLeast) := ⟨rfl, rfl, rfl, by decide +kernel, rfl, by decide +kernel, by decide +kernel⟩
theorem ok_least {f fPR fC fT fF : Addr} {fd fdC fdT fdF : FuncData} (F : Fun K "least" "least" sLeast f fd) (T : TxtP1 mg fPR fC fT fF)
    (GC : FnOk P w K mg base CX0 3 fC fdC ["form"] (spCheckF K)) (kC : PySem.W.keepIn K (.ref fC) = true) (bC : Binds K fdC ["form"] [])
    (GT : FnOk P w K mg base CX0 3 fT fdT ["form"] (spTableOf K)) (kT : PySem.W.keepIn K (.ref fT) = true) (bT : Binds K fdT ["form"] [])
    (GF : FnOk P w K mg base CX0 2 fF fdF ["table"] (spFormOf K)) (kF : PySem.W.keepIn K (.ref fF) = true) (bF : Binds K fdF ["table"] []) : FnOk P w K mg base CX0 4 f fd ["form"] (spLeast K) := by
  have nd := scLeast.nd
  refine F.ok scLeast (fun vs H Q E h => ?_) (fun cdv A outer s H vs Q E hr h => ?_)
  · obtain ⟨_, _, _, _, _, rfl, _⟩ := h
    rfl
  · obtain ⟨v, n, c, ms, ps, rfl, hv, O, q⟩ := h
    have hr2 : Room 2 _ := hr.mono (by decide)
    have hr3 : Room 3 _ := hr.mono (by decide)
    refine ⟨_, pss_cons (ps_expr (pe_call GC hr3 rfl T.gC kC bC .nil pass0 (pa_cons (pv 0) pa_nil)))
      (pss_one (ps_ret (pe_call GF hr2 rfl T.gF kF bF .nil pass0 (pa_cons (pe_call GT hr3 rfl T.gT kT bT .nil pass0 (pa_cons (pv 0) pa_nil)) pa_nil)))), ?_⟩
    have vv := O.vol
    have n4 := O.n4
    have ll := O.len
    refine ⟨_, rfl, v, n, c, ms, ps, rfl, hv, O, fun H1 sm1 => ?_⟩
    refine ⟨_, rfl, v, ms, ps, rfl, dp_same sm1 hv, O.pos, O.pl, by omega, by omega, O.piece, fun H2 r ls sm2 TA TT LT ll2 => ?_⟩
    obtain ⟨lp, lv⟩ := O.least LT ll2
    have O2 := O.tab (ns := ls) (by omega) lp (by omega)
    have c4 := O.c4
    refine ⟨r, ls, _, rfl, TA, fun rs hrs => by have := (O2.wid rs hrs).2; omega, fun H3 u bs sm3 ow nw ndb => ?_⟩
    exact q H3 u bs ls ((sm1.trans sm2).trans sm3) ow (fun b hb => (sm1.trans sm2).free (nw b hb)) ndb LT ll2
theorem scAt : FnScope ["form", "state", "moduli", "pieces"] ["form", "state"] (defScope sAt) := ⟨rfl, rfl, rfl, by decide +kernel, rfl, by decide +kernel, by decide +kernel⟩
theorem ok_at {f fC fAc fCS fRA fRO fPl : Addr} {fd fdC fdAc fdCS fdRA fdRO fdPl : FuncData} (F : Fun K "at" "at" sAt f fd) (T : TxtP2 mg fC fAc fCS fRA fRO fPl)
    (GC : FnOk P w K mg base CX0 3 fC fdC ["form"] (spCheckF K)) (kC : PySem.W.keepIn K (.ref fC) = true) (bC : Binds K fdC ["form"] [])
    (GA : FnOk P w K mg base CX0 1 fAc fdAc ["form"] (spAccIn K)) (kA : PySem.W.keepIn K (.ref fAc) = true) (bA : Binds K fdAc ["form"] [])
    (GS : FnOk P w K mg base CX0 1 fCS fdCS ["many", "state"] (spChkS K)) (kS : PySem.W.keepIn K (.ref fCS) = true) (bS : Binds K fdCS ["many", "state"] [])
    (GR : FnOk P w K mg base CX0 2 fRA fdRA ["rows", "state"] (spRowsAt K)) (kR : PySem.W.keepIn K (.ref fRA) = true) (bR : Binds K fdRA ["rows", "state"] [])
    (GO : FnOk P w K mg base CX0 1 fRO fdRO ["piece"] (spRowsOf K)) (kO : PySem.W.keepIn K (.ref fRO) = true) (bO : Binds K fdRO ["piece"] [])
    (GP : FnOk P w K mg base CX0 1 fPl fdPl ["moduli", "state"] (spPlc K)) (kP : PySem.W.keepIn K (.ref fPl) = true) (bP : Binds K fdPl ["moduli", "state"] []) : FnOk P w K mg base CX0 4 f fd ["form", "state"] (spAt K) := by
  have nd := scAt.nd
  refine F.ok scAt (fun vs H Q E h => ?_) (fun cdv A outer s H vs Q E hr h => ?_)
  · obtain ⟨_, _, _, _, _, _, _, rfl, _⟩ := h
    rfl
  · obtain ⟨v, b, n, c, ms, ps, st, rfl, hv, hb, O, sl, sb, q⟩ := h
    have hr1 : Room 1 _ := hr.mono (by decide)
    have hr2 : Room 2 _ := hr.mono (by decide)
    have hr3 : Room 3 _ := hr.mono (by decide)
    refine ⟨_, pss_cons (ps_expr (pe_call GC hr3 rfl T.gC kC bC .nil pass0 (pa_cons (pv 0) pa_nil)))
      (pss_cons (ps_expr (pe_call GS hr1 rfl T.gCS kS bS .nil pass0 (pa_cons (pe_call GA hr1 rfl T.gAc kA bA .nil pass0 (pa_cons (pv 0) pa_nil)) (pa_cons (pv 1) pa_nil))))
      (pss_cons (ps_asg (pv 0) (pg_tup rfl (pgs_cons (pg_name (i := 2) nd rfl (Or.inl rfl)) (pgs_cons (pg_name (i := 3) nd rfl (Or.inl rfl)) pgs_nil))))
      (pss_one (ps_ret (pe_callTy call_list_of (by rfl) T.list (by decide +kernel) (pa_cons (pe_call GR hr2 rfl T.gRA kR bR .nil pass0 (pa_cons (pe_call GO hr1 rfl T.gRO kO bO .nil pass0 (pa_cons (pe_ix ix_list (pv 3) (pe_call GP hr1 rfl T.gPl kP bP .nil pass0 (pa_cons (pv 2) (pa_cons (pv 1) pa_nil))) (fun _ _ => rfl)) pa_nil)) (pa_cons (pv 1) pa_nil))) pa_nil)))))), ?_⟩
    have vv := O.vol
    have n4 := O.n4
    have n0 := O.n0
    have ll := O.len
    have c4 := O.c4
    have slI : (IL st).length = n := by unfold IL; rw [List.length_map, sl]
    refine ⟨_, rfl, v, n, c, ms, ps, rfl, hv, O, fun H1 sm1 => ?_⟩
    have hv1 := dp_same sm1 hv
    have hb1 := sm1.seq hb
    refine ⟨_, rfl, v, ms, ps, rfl, hv1, _, rfl, b, IL st, by rw [slI, ll]; rfl, hb1, ?_⟩
    obtain ⟨t, a, l, xs, rfl, st1, sa, sb1, dx⟩ := dp_form hv1
    refine ⟨_, rfl, t, _, rfl, st1, rfl, _, _, rfl, _, _, rfl, rfl, ?_⟩
    refine ⟨_, rfl, _, rfl, _, rfl, a, b, ms, st, rfl, sa, hb1, O.pos, by omega, by omega, fun H2 sm2 => ?_⟩
    have plt : FM.plc ms (modI ms st) < ps.length := by
      rw [O.pl]
      exact FM.plc_lt (modI_rest O.pos (by omega))
    have xl : xs.length = ps.length := by have := dpAll_len dx; rwa [List.length_map] at this
    have ex : xs[FM.plc ms (modI ms st)]? = some (xs[FM.plc ms (modI ms st)]'(by omega)) := List.getElem?_eq_getElem (by omega)
    obtain ⟨d, hd1, hd2⟩ := dpAll_get (dpAll_same sm2 dx) ex
    rw [List.getElem?_map, List.getElem?_eq_getElem plt] at hd1
    have ed : d = pieceD (rowsOf ms ps st) := by
      unfold rowsOf
      rw [List.getD_eq_getElem?_getD, List.getElem?_eq_getElem plt]
      exact (Option.some.inj hd1).symm
    rw [ed] at hd2
    have mem : rowsOf ms ps st ∈ ps := by
      unfold rowsOf
      rw [List.getD_eq_getElem?_getD, List.getElem?_eq_getElem plt]
      exact List.getElem_mem _
    obtain ⟨w1, w2⟩ := O.wid _ mem
    refine ⟨l, xs, _, _, rfl, rfl, sm2.seq sb1, atI_nat ex, ?_⟩
    refine ⟨_, _, rfl, hd2, (O.piece _ mem).2, by omega, fun H3 p bs sm3 ow nw _ => ?_⟩
    refine ⟨_, rfl, .ref p, b, _, st, rfl, ow.dp, sm3.seq (sm2.seq hb1), fun r hr => ⟨by rw [w1 r hr, sl], fun x hx => Nat.le_trans (O.sml _ mem r hr x hx) (by decide)⟩, by omega, by omega, sb, fun H4 p2 sm4 ht => ?_⟩
    refine ⟨p2, _, rfl, .inr ht, fun z hz => ?_⟩
    have kk := ((sm1.trans sm2).trans sm3).trans sm4
    exact q _ z (kk.trans (same_new hz)) (kk.free hz) upd_same
end
end K09

set_option Elab.async false
set_option linter.all false
set_option maxRecDepth 100000
set_option maxHeartbeats 4000000
set_option exponentiation.threshold 5000
namespace K09
open PySem L2 DL PySem.HouseX CM
def tabD (ls : List Nat) (es : List (List Line)) : PyData := .tuple [.tuple ((ls.map fun n : Nat => (n : Int)).map PyData.int), .list (es.map rowsD)]
theorem TabAt.dp {K : PySem.W.Frag} {H : Hp} {r : Addr} {ls : List Nat} {es : List (List Line)} (T : TabAt K H r ls es) : Dp K H (.ref r) (tabD ls es) := by
  obtain ⟨⟨t, b, xs, h1, h2, h3, h4⟩, _⟩ := T
  exact .tup h1 (.cons (tupN h2) (.cons (.lst h3 h4) .nil))
theorem intD_tab (ls : List Nat) (es : List (List Line)) : IntD (tabD ls es) := ⟨intD_ints _, by
  refine ⟨intDs_iff.mpr fun d hd => ?_, trivial⟩
  obtain ⟨rs, _, rfl⟩ := List.mem_map.mp hd
  exact intD_rows rs⟩
theorem shaped_tab (ls : List Nat) (es : List (List Line)) : SeqAt.shaped (tabD ls es) = true := by
  have h0 : PyData.depthAll (es.map rowsD) ≤ 2 := depthAll_le.mpr fun d hd => by
    obtain ⟨rs, _, rfl⟩ := List.mem_map.mp hd
    exact rows_depth rs
  have h1 : (tabD ls es).depth ≤ 64 := by
    have g := (lay_il (ls.map fun m : Nat => (m : Int))).2
    simp only [tabD, PyData.depth, PyData.depthAll]
    omega
  have h2 : (tabD ls es).canLay0 = true := lay_intD (intD_tab ls es)
  unfold SeqAt.shaped
  rw [h2, decide_eq_true h1]
  rfl
theorem tab_injD {l1 l2 : List Nat} {e1 e2 : List (List Line)} (h : tabD l1 e1 = tabD l2 e2) : l1 = l2 ∧ e1 = e2 := by
  have h' := PyData.tuple.inj h
  have a := (List.cons.inj h').1
  have b := (List.cons.inj (List.cons.inj h').2).1
  refine ⟨nats_inj (PyData.tuple.inj a), ?_⟩
  exact (List.map_inj_right rows_inj).mp (PyData.list.inj b)
/-- two tables in their least way are the same just if they tell the same -/
theorem tabs_same {n c : Nat} {ms ns l1 l2 : List Nat} {ps qs : List (List Line)} (O1 : FK n c ms ps) (O2 : FK n c ns qs) (L1 : FM.LeastT (formF ms ps) l1) (L2' : FM.LeastT (formF ns qs) l2) (T1 : FM.Told (formF ms ps) l1 (FM.tab l1 (formF ms ps))) (T2 : FM.Told (formF ns qs) l2 (FM.tab l2 (formF ns qs)))
    (e1 : l1.length = ms.length) (e2 : l2.length = ns.length) : (l1 = l2 ∧ FM.tab l1 (formF ms ps) = FM.tab l2 (formF ns qs)) ↔ ∀ s, s.length = n → formF ms ps s = formF ns qs s := by
  have a1 := O1.len
  have a2 := O2.len
  constructor
  · rintro ⟨rfl, h⟩ s hs
    have r := FM.modl_rest T1.pos (show s.length = l1.length by omega)
    rw [← T1.modl (show s.length = l1.length by omega), ← T2.modl (show s.length = l1.length by omega)]
    exact FM.tab_inj h r
  · intro all
    have Lc : FM.LeastT (formF ns qs) l1 := least_congr (fun s hs => all s (by omega)) L1
    have el : l1 = l2 := Lc.uniq L2' (by omega)
    subst el
    exact ⟨rfl, FM.tab_ext fun r hr => all r (by rw [FM.rest_len hr]; omega)⟩
def spAlike (K : PySem.W.Frag) : Sp := fun vs H Q _ => ∃ (v u : V) (n c : Nat) (ms ns : List Nat) (ps qs : List (List Line)), vs = [v, u] ∧ Dp K H v (formD ms ps) ∧ Dp K H u (formD ns qs) ∧ FK n c ms ps ∧ FK n c ns qs ∧
  ∀ H' B, Same H H' → (B = true ↔ ∀ s, s.length = n → formF ms ps s = formF ns qs s) → Q (.bl B) H'
def spPlain (K : PySem.W.Frag) : Sp := fun vs H Q _ => ∃ (v : V) (n c : Nat) (ms : List Nat) (ps : List (List Line)), vs = [v] ∧ Dp K H v (formD ms ps) ∧ FK n c ms ps ∧
  ∀ H' B ls, Same H H' → FM.LeastT (formF ms ps) ls → ls.length = ms.length → (B = true ↔ ∀ l ∈ ls, l = 1) → Q (.bl B) H'
/-- lists without their doubles, in the order in which they come -/
def matI (m : List (List Int)) : PyData := .list (m.map stD)
def dd (xs : List (List (List Int))) : List (List (List Int)) := xs.foldl (fun acc m => if m ∈ acc then acc else acc ++ [m]) []
theorem dd_snoc (xs : List (List (List Int))) (m : List (List Int)) : dd (xs ++ [m]) = if m ∈ dd xs then dd xs else dd xs ++ [m] := by
  unfold dd
  rw [List.foldl_append]
  rfl
theorem dd_len (xs : List (List (List Int))) : (dd xs).length ≤ xs.length := by
  have g : ∀ (xs acc : List (List (List Int))), (xs.foldl (fun acc m => if m ∈ acc then acc else acc ++ [m]) acc).length ≤ acc.length + xs.length := fun xs => by
    induction xs with
    | nil => intro acc; exact Nat.le_refl _
    | cons m xs ih =>
      intro acc
      rw [List.foldl_cons]
      refine Nat.le_trans (ih _) ?_
      rw [List.length_cons]
      split
      · omega
      · rw [List.length_append, List.length_singleton]
        omega
  have := g xs []
  rw [List.length_nil, Nat.zero_add] at this
  exact this
def mats (ps : List (List Line)) : List (List (List Int)) := ps.map fun rs => rs.map (·.is)
theorem matD_matI (rs : List Line) : matD rs = matI (rs.map (·.is)) := by
  unfold matD matI
  rw [List.map_map]
  rfl
def spMats : Sp := fun vs H Q _ => ∃ (v : V) (as : List Addr) (n c : Nat) (ms : List Nat) (ps : List (List Line)), vs = [v] ∧ Own H (formD ms ps) v as ∧ FK n c ms ps ∧
  ∀ H' u bs, Same H H' → Own H' (.list ((dd (mats ps)).map matI)) u bs → New H bs → bs.Nodup → Q u H'
structure TxtP3 (mg : Str → Option Value) (fC fB fT fCo : Addr) : Prop where
  max : mg "max" = none
  gC : mg "check_form" = some (.ref fC)
  gB : mg "check_both" = some (.ref fB)
  gT : mg "table_of" = some (.ref fT)
  gCo : mg "copied" = some (.ref fCo)
section
variable {P : Program} {w : World} {K : PySem.W.Frag} {mg : Str → Option Value} {base : Heap}
theorem scAlike : FnScope ["one", "other"] ["one", "other"] (defScope sAlike) := ⟨rfl, rfl, rfl, by decide +kernel, rfl, by decide +kernel, by decide +kernel⟩
theorem ok_alike {f fC fB fT fCo : Addr} {fd fdB fdT : FuncData} (F : Fun K "alike" "alike" sAlike f fd) (T : TxtP3 mg fC fB fT fCo)
    (GB : FnOk P w K mg base CX0 4 fB fdB ["one", "other"] (spCheckB K)) (kB : PySem.W.keepIn K (.ref fB) = true) (bB : Binds K fdB ["one", "other"] [])
    (GT : FnOk P w K mg base CX0 3 fT fdT ["form"] (spTableOf K)) (kT : PySem.W.keepIn K (.ref fT) = true) (bT : Binds K fdT ["form"] []) : FnOk P w K mg base CX0 5 f fd ["one", "other"] (spAlike K) := by
  have nd := scAlike.nd
  refine F.ok scAlike (fun vs H Q E h => ?_) (fun cdv A outer s H vs Q E hr h => ?_)
  · obtain ⟨_, _, _, _, _, _, _, _, rfl, _⟩ := h
    rfl
  · obtain ⟨v, u, n, c, ms, ns, ps, qs, rfl, hv, hu, O1, O2, q⟩ := h
    have hr3 : Room 3 _ := hr.mono (by decide)
    refine ⟨_, pss_cons (ps_expr (pe_call GB hr rfl T.gB kB bB .nil pass0 (pa_cons (pv 0) (pa_cons (pv 1) pa_nil))))
      (pss_one (ps_ret (pe_cmpR (op_eqD hr.units) (pe_call GT hr3 rfl T.gT kT bT .nil pass0 (pa_cons (pv 0) pa_nil)) (pe_call GT hr3 rfl T.gT kT bT .nil pass0 (pa_cons (pv 1) pa_nil)) (nomark _)))), ?_⟩
    have v1 := O1.vol
    have v2 := O2.vol
    have n4 := O1.n4
    have l1' := O1.len
    have l2' := O2.len
    refine ⟨_, rfl, _, rfl, v, u, n, c, ms, ns, ps, qs, rfl, hv, hu, O1, O2, fun H1 sm1 => ?_⟩
    refine ⟨_, rfl, v, ms, ps, rfl, dp_same sm1 hv, O1.pos, O1.pl, by omega, by omega, O1.piece, fun H2 r1 l1 sm2 TA1 T1 L1 e1 => ?_⟩
    refine ⟨_, rfl, u, ns, qs, rfl, dp_same (sm1.trans sm2) hu, O2.pos, O2.pl, by omega, by omega, O2.piece, fun H3 r2 l2 sm3 TA2 T2 L2' e2 => ?_⟩
    refine ⟨_, _, (TA1.same sm3).dp, TA2.dp, shaped_tab _ _, shaped_tab _ _, ?_⟩
    refine q H3 _ ((sm1.trans sm2).trans sm3) ?_
    rw [eqv_intD (intD_tab _ _) (intD_tab _ _), ← tabs_same O1 O2 L1 L2' T1 T2 e1 e2]
    constructor
    · exact tab_injD
    · rintro ⟨h1, h2⟩
      rw [h2, h1]
theorem scPlain : FnScope ["form", "moduli", "_"] ["form"] (defScope sIsPlain) := ⟨rfl, rfl, rfl, by decide +kernel, rfl, by decide +kernel, by decide +kernel⟩
theorem ok_plain {f fC fB fT fCo : Addr} {fd fdC fdT : FuncData} (F : Fun K "is_plain" "is_plain" sIsPlain f fd) (T : TxtP3 mg fC fB fT fCo)
    (GC : FnOk P w K mg base CX0 3 fC fdC ["form"] (spCheckF K)) (kC : PySem.W.keepIn K (.ref fC) = true) (bC : Binds K fdC ["form"] [])
    (GT : FnOk P w K mg base CX0 3 fT fdT ["form"] (spTableOf K)) (kT : PySem.W.keepIn K (.ref fT) = true) (bT : Binds K fdT ["form"] []) : FnOk P w K mg base CX0 4 f fd ["form"] (spPlain K) := by
  have nd := scPlain.nd
  refine F.ok scPlain (fun vs H Q E h => ?_) (fun cdv A outer s H vs Q E hr h => ?_)
  · obtain ⟨_, _, _, _, _, rfl, _⟩ := h
    rfl
  · obtain ⟨v, n, c, ms, ps, rfl, hv, O, q⟩ := h
    have hr3 : Room 3 _ := hr.mono (by decide)
    refine ⟨_, pss_cons (ps_expr (pe_call GC hr3 rfl T.gC kC bC .nil pass0 (pa_cons (pv 0) pa_nil)))
      (pss_cons (ps_asg (pe_call GT hr3 rfl T.gT kT bT .nil pass0 (pa_cons (pv 0) pa_nil)) (pg_tup rfl (pgs_cons (pg_name (i := 1) nd rfl (Or.inl rfl)) (pgs_cons (pg_name (i := 2) nd rfl (Or.inl rfl)) pgs_nil))))
      (pss_one (ps_ret (pe_cmpR op_eq (pe_callB (cr_maxT rfl hr.units) (by rfl) T.max (by decide +kernel) (pa_cons (pv 1) pa_nil)) pe_int (nomark _))))), ?_⟩
    have v1 := O.vol
    have n4 := O.n4
    have n0 := O.n0
    have l1' := O.len
    refine ⟨_, rfl, v, n, c, ms, ps, rfl, hv, O, fun H1 sm1 => ?_⟩
    refine ⟨_, rfl, v, ms, ps, rfl, dp_same sm1 hv, O.pos, O.pl, by omega, by omega, O.piece, fun H2 r ls sm2 TA TT LT e2 => ?_⟩
    obtain ⟨⟨t, b, xs, h1, h2, h3, h4⟩, pos, el, few⟩ := TA
    refine ⟨r, _, rfl, h1, rfl, _, _, rfl, _, _, rfl, rfl, ?_⟩
    have h2' : SqT K H2 t ((ls.map fun n : Nat => (n : Int)).map V.int) := by rw [← nl_il] at h2; exact h2
    refine ⟨_, rfl, t, _, rfl, h2', by rw [List.length_map]; omega, fun m hm hall => ?_⟩
    refine ⟨rfl, q H2 _ ls (sm1.trans sm2) LT e2 ?_⟩
    obtain ⟨m', hm', rfl⟩ := List.mem_map.mp hm
    rw [decide_eq_true_iff]
    constructor
    · intro h l hl
      have e : (m' : Int) = 1 := V.int.inj h
      have := hall _ (List.mem_map.mpr ⟨l, hl, rfl⟩)
      have := pos l hl
      omega
    · intro h
      rw [h m' hm']
      rfl
theorem mats_any (ms : List (List (List Int))) (m : List (List Int)) : ((ms.map matI).any fun z => PyData.eqv z (matI m)) = decide (m ∈ ms) := by
  have key : ∀ x, PyData.eqv (matI x) (matI m) = true ↔ x = m := fun x => by
    have h := PySem.W.Datum.eqv x m
    have h' : PyData.eqv (matI x) (matI m) = decide (x = m) := h
    rw [h']
    exact decide_eq_true_iff
  rw [Bool.eq_iff_iff, decide_eq_true_iff, List.any_eq_true]
  constructor
  · rintro ⟨z, hz, e⟩
    obtain ⟨x, hx, rfl⟩ := List.mem_map.mp hz
    rw [← (key x).mp e]
    exact hx
  · intro h
    exact ⟨matI m, List.mem_map.mpr ⟨m, h, rfl⟩, (key m).mpr rfl⟩
theorem mats_plain (ms : List (List (List Int))) : PyData.plainAll (ms.map matI) = true := PySem.W.plainAll_map ms
theorem mat_plain (m : List (List Int)) : (matI m).plain = true := PySem.W.Datum.plain m
theorem mat_depth (m : List (List Int)) : (matI m).depth ≤ 2 := by
  have h : PyData.depthAll (m.map stD) ≤ 1 := depthAll_le.mpr fun d hd => by
    obtain ⟨r, _, rfl⟩ := List.mem_map.mp hd
    have g := (lay_il r).2
    simp only [stD, PyData.depth]
    omega
  simp only [matI, PyData.depth]
  omega
theorem scMats : FnScope ["form", "found", "matrix", "_"] ["form"] (defScope sMatrices) := ⟨rfl, rfl, rfl, by decide +kernel, rfl, by decide +kernel, by decide +kernel⟩
theorem ok_mats {f fC fB fT fCo : Addr} {fd fdC fdCo : FuncData} (F : Fun K "matrices" "matrices" sMatrices f fd) (T : TxtP3 mg fC fB fT fCo)
    (GC : FnOk P w K mg base CX0 3 fC fdC ["form"] (spCheckF K)) (kC : PySem.W.keepIn K (.ref fC) = true) (bC : Binds K fdC ["form"] [])
    (GO : FnOk P w K mg base CX0 4 fCo fdCo ["thing"] (spCopy 3)) (kO : PySem.W.keepIn K (.ref fCo) = true) (bO : Binds K fdCo ["thing"] []) : FnOk P w K mg base CX0 5 f fd ["form"] spMats := by
  have nd := scMats.nd
  refine F.ok scMats (fun vs H Q E h => ?_) (fun cdv A outer s H vs Q E hr h => ?_)
  · obtain ⟨_, _, _, _, _, _, rfl, _⟩ := h
    rfl
  · obtain ⟨v, as, n, c, ms, ps, rfl, hv, O, q⟩ := h
    have hr3 : Room 3 _ := hr.mono (by decide)
    refine ⟨_, pss_cons (ps_expr (pe_call GC hr3 rfl T.gC kC bC .nil pass0 (pa_cons (pv 0) pa_nil)))
      (pss_cons (ps_set (i := 1) nd rfl (Or.inl rfl) (pe_lst pa_nil))
      (pss_cons (ps_for PassesOwn.never rfl (pi_list (pe_ix ix_tup (pv 0) pe_int (fun _ _ => rfl))) (pg_tup rfl (pgs_cons (pg_name (i := 2) nd rfl (Or.inl rfl)) (pgs_cons (pg_name (i := 3) nd rfl (Or.inl rfl)) pgs_nil)))
        (pss_one (ps_if (pt_cmpR (op_notInD hr.units) (pv 2) (pv 1) (by rfl)) (pss_one (ps_expr (pe_bm PySem.F.plainAttrs_list PySem.F.slot_list_append PySem.F.type_list_append mt_append (pv 1) (pa_cons (pe_call GO hr rfl T.gCo kO bO .nil pass0 (pa_cons (pv 2) pa_nil)) pa_nil)))) pss_nil)))
      (pss_one (ps_ret (pv 1))))), ?_⟩
    have v1 := O.vol
    have l1' := O.len
    have pl' := O.pl
    refine ⟨_, rfl, v, n, c, ms, ps, rfl, hv.dp, O, fun H1 sm1 => ?_⟩
    have hv1 := hv.same sm1
    obtain ⟨t, a, b, xs, cs, rfl, ht, ha, hb, ho, _⟩ := own_form hv1
    refine ⟨Nat.zero_le _, fun D hD => ?_⟩
    have zD := same_new (o := .lst []) hD
    refine ⟨_, rfl, t, _, _, .ref b, rfl, rfl, SqT.of (zD _ _ ht), rfl, b, rfl, ⟨_, SqL.of (zD _ _ hb)⟩, ?_⟩
    have xl : xs.length = ps.length := by have := ho.len; rwa [List.length_map] at this
    have ml : (mats ps).length = ps.length := List.length_map ..
    refine for_list (K := K) (a := b) (xs := xs) (fun i σ H' => ∃ (vs : List V) (bs : List Addr) (x2 x3 : Option V), σ = [some (.ref t), some (.ref D), x2, x3] ∧ Filling H1 H' D ((dd ((mats ps).take i)).map matI) vs bs) ⟨_, _, _, _, rfl, Filling.start hD⟩ (fun i σ H' _ ⟨_, _, _, _, _, Fl⟩ => SqL.of (Fl.same _ _ hb)) ?_ ?_
    · rintro i x σ H2 hx ⟨vs, bs, x2, x3, rfl, Fl⟩
      obtain ⟨d, b2, hd1, hd2, _⟩ := (ho.same Fl.same).at hx
      rw [List.getElem?_map] at hd1
      obtain ⟨rs, er, rfl⟩ := Option.map_eq_some_iff.mp hd1
      have il := (List.getElem?_eq_some_iff.mp er).1
      obtain ⟨tp, us, cs2, rfl, htp, ⟨w1, us1, c1, c2, rfl, om, ⟨w2, us2, c3, c4, rfl, oa, ⟨rfl, rfl⟩, rfl⟩, rfl⟩, rfl⟩ := hd2
      have em : (mats ps)[i]? = some (rs.map (·.is)) := by
        unfold mats
        rw [List.getElem?_map, er]
        rfl
      have tk : dd ((mats ps).take (i + 1)) = if rs.map (·.is) ∈ dd ((mats ps).take i) then dd ((mats ps).take i) else dd ((mats ps).take i) ++ [rs.map (·.is)] := by
        rw [List.take_add_one, em]
        exact dd_snoc _ _
      rw [matD_matI] at om
      have vl := Fl.own.len
      rw [List.length_map] at vl
      have dl := dd_len ((mats ps).take i)
      have dl2 : ((mats ps).take i).length ≤ i := List.length_take_le ..
      refine ⟨tp, _, rfl, SqT.of htp, rfl, _, _, rfl, _, _, rfl, rfl, ?_⟩
      refine ⟨_, rfl, _, rfl, matI (rs.map (·.is)), (dd ((mats ps).take i)).map matI, om.dp, .lst (SqL.of Fl.at_) Fl.own.dp, mats_plain _, mat_plain _, Nat.le_trans (mat_depth _) (by decide), ?_⟩
      rw [mats_any]
      refine ⟨_, rfl, ite2 (fun h => ?_) (fun h => ?_)⟩
      · have hn : ¬ rs.map (·.is) ∈ dd ((mats ps).take i) := by simpa using h
        rw [if_neg hn] at tk
        have nn : nodes (matI (rs.map (·.is))) ≤ 1000000 := by
          have := piece_nodes (O.piece rs (List.mem_of_getElem? er))
          rw [← matD_matI]
          simp only [pieceD, nodes, nodesAll] at this
          omega
        refine ⟨_, rfl, .inl ⟨rfl, _, SqL.of Fl.at_⟩, _, rfl, matI (rs.map (·.is)), w1, c1, rfl, om, Nat.le_trans (mat_depth _) (by decide), nn, fun H3 v' bs' sm3 ow nw ndb => ?_⟩
        refine ⟨D, vs, _, rfl, rfl, sm3 _ _ Fl.at_, Nat.lt_of_le_of_lt (show vs.length ≤ 1000 by omega) (by decide), vs ++ [v'], bs ++ bs', _, _, rfl, ?_⟩
        rw [tk, List.map_append]
        exact Fl.more hD sm3 ow nw ndb
      · have hn : rs.map (·.is) ∈ dd ((mats ps).take i) := by simpa using h
        rw [if_pos hn] at tk
        refine ⟨vs, bs, _, _, rfl, ?_⟩
        rw [tk]
        exact Fl
    · rintro σ H2 ⟨vs, bs, x2, x3, rfl, Fl⟩
      rw [xl, ← ml, List.take_length] at Fl
      obtain ⟨n1, n2, n3⟩ := Fl.list hD
      exact ⟨_, rfl, q H2 _ _ (sm1.trans Fl.same) n1 (fun z hz => sm1.free (n2 z hz)) n3⟩
end
end K09

set_option Elab.async false
set_option linter.all false
set_option maxRecDepth 100000
set_option maxHeartbeats 4000000
set_option exponentiation.threshold 5000
namespace K09
open PySem L2 DL PySem.HouseX CM
def spHangs (K : PySem.W.Frag) : Sp := fun vs H Q _ => ∃ (r t b : Addr) (ls : List Nat) (xs : List V) (es : List Line) (i : Nat), vs = [.ref r, .int i] ∧ SqT K H r [.ref t, .ref b] ∧ SqT K H t (NL ls) ∧ SqL K H b xs ∧ DpAll K H xs (es.map lineD) ∧ i < ls.length ∧ (∀ e ∈ es, e.is.length = ls.length) ∧ es.length ≤ 1000 ∧
  ∀ H' B, Same H H' → (B = true ↔ (1 < ls.getD i 0 ∨ ∃ e ∈ es, e.is.getD i 0 ≠ 0)) → Q (.bl B) H'
/-- what a form tells of one result -/
def lineF (ms : List Nat) (ps : List (List Line)) (j : Nat) : List Nat → Line := fun s => (formF ms ps s).getD j ⟨[], 0⟩
def spHangsOn (K : PySem.W.Frag) : Sp := fun vs H Q _ => ∃ (v : V) (n c j i : Nat) (ms : List Nat) (ps : List (List Line)), vs = [v, .int j, .int i] ∧ Dp K H v (formD ms ps) ∧ FK n c ms ps ∧ j < c ∧ i < n ∧
  ∀ H' B ls, Same H H' → FM.LeastT (lineF ms ps j) ls → ls.length = n → (B = true ↔ (1 < ls.getD i 0 ∨ ∃ s, s.length = n ∧ (lineF ms ps j s).is.getD i 0 ≠ 0)) → Q (.bl B) H'
structure TxtP4 (mg : Str → Option Value) (fC fI fAc fRi fRO fL fH : Addr) : Prop where
  any : mg "any" = none
  tuple : mg "tuple" = none
  gC : mg "check_form" = some (.ref fC)
  gI : mg "check_index" = some (.ref fI)
  gAc : mg "accounts_in_form" = some (.ref fAc)
  gRi : mg "results_in_form" = some (.ref fRi)
  gRO : mg "rows_of" = some (.ref fRO)
  gL : mg "least_way" = some (.ref fL)
  gH : mg "hangs" = some (.ref fH)
section
variable {P : Program} {w : World} {K : PySem.W.Frag} {mg : Str → Option Value} {base : Heap}
theorem scHangs : FnScope ["sheet", "index", "moduli", "pieces", "piece"] ["sheet", "index"] (defScope sHangs) := ⟨rfl, rfl, rfl, by decide +kernel, rfl, by decide +kernel, by decide +kernel⟩
theorem ok_hangs {f : Addr} {fd : FuncData} (F : Fun K "hangs" "hangs" sHangs f fd) (any : mg "any" = none) : FnOk P w K mg base CX0 1 f fd ["sheet", "index"] (spHangs K) := by
  have nd := scHangs.nd
  refine F.ok scHangs (fun vs H Q E h => ?_) (fun cdv A outer s H vs Q E hr h => ?_)
  · obtain ⟨_, _, _, _, _, _, _, rfl, _⟩ := h
    rfl
  · obtain ⟨r, t, b, ls, xs, es, i, rfl, h1, h2, h3, h4, il, wid, few, q⟩ := h
    refine ⟨_, pss_cons (ps_asg (pv 0) (pg_tup rfl (pgs_cons (pg_name (i := 2) nd rfl (Or.inl rfl)) (pgs_cons (pg_name (i := 3) nd rfl (Or.inl rfl)) pgs_nil))))
      (pss_one (ps_ret (pe_or (pe_cmpR op_gt (pe_ix ix_tup (pv 2) (pv 1) (fun _ _ => rfl)) pe_int (nomark _))
        (pe_one (pe_callB (cr_any rfl) (by rfl) any (by decide +kernel) (pa_cons (pe_lc (own := [("piece", 4)]) (g := gName 4) rfl nd (pi_list (pv 3))
          (blkOk_by (N := ["sheet", "index", "moduli", "pieces", "piece"]) (sc := defScope sHangs) (by decide +kernel)) (fun _ _ _ _ _ => pg_name (i := 4) nd rfl (Or.inl rfl)) (fun _ _ _ _ _ => pts_nil)
          (fun _ _ _ _ _ => pe_cmpR op_ne (pe_ix (show IxR _ (rIxT K) from ix_tup) (pv 4) (pv 1) (fun _ _ => rfl)) pe_int (nomark _))) pa_nil)))))), ?_⟩
    have xl : xs.length = es.length := by have := dpAll_len h4; rwa [List.length_map] at this
    have nl : (NL ls)[i]? = some (V.int (ls.getD i 0 : Nat)) := by
      unfold NL
      rw [List.getElem?_map, List.getElem?_eq_getElem il, List.getD_eq_getElem?_getD, List.getElem?_eq_getElem il]
      rfl
    refine ⟨_, rfl, r, _, rfl, h1, rfl, _, _, rfl, _, _, rfl, rfl, ?_⟩
    refine ⟨_, rfl, _, rfl, t, _, _, _, rfl, rfl, h2, atI_nat nl, _, _, rfl, rfl, ?_⟩
    have fin : ∀ (X : Prop) (B : Bool) (H' : Hp), Same H H' → (B = true ↔ ∃ e ∈ es, e.is.getD i 0 ≠ 0) → ¬ 1 < ls.getD i 0 → Q (.bl B) H' := fun _ B H' sm h h0 => q H' B sm ⟨fun e => .inr (h.mp e), fun e => h.mpr (e.resolve_left h0)⟩
    refine ⟨_, rfl, ite2 (fun h => ?_) (fun h => ?_)⟩
    · have h' := of_decide_eq_true h
      exact q H true (Same.refl _) ⟨fun _ => .inl (by omega), fun _ => rfl⟩
    · have h0 : ¬ 1 < ls.getD i 0 := fun z => h (decide_eq_true (by omega))
      refine ⟨_, rfl, b, rfl, ⟨_, h3⟩, fun D hD => ?_⟩
      refine lc_list (K := K) (a := b) (xs := xs) (Made H D (fun _ => true) (fun k => V.bl (decide ((es.map fun e => e.is.getD i 0).getD k 0 ≠ 0)))) (Made.start hD) (fun k H' _ M => M.same.seq h3) ?_ ?_
      · rintro k x H1 hx M
        obtain ⟨d, hd1, hd2⟩ := dpAll_get h4 hx
        rw [List.getElem?_map] at hd1
        obtain ⟨e, er, rfl⟩ := Option.map_eq_some_iff.mp hd1
        obtain ⟨ra, rfl, sr⟩ := dp_line hd2
        have kl := (List.getElem?_eq_some_iff.mp er).1
        have we := wid e (List.mem_of_getElem? er)
        have ie : (IL e.row)[i]? = some (V.int (e.is.getD i 0)) := by
          unfold IL Line.row
          rw [List.getElem?_map, List.getElem?_append_left (by omega), List.getElem?_eq_getElem (by omega), List.getD_eq_getElem?_getD, List.getElem?_eq_getElem (by omega)]
          rfl
        have ee : (es.map fun e => e.is.getD i 0).getD k 0 = e.is.getD i 0 := by
          rw [List.getD_eq_getElem?_getD, List.getElem?_map, er]
          rfl
        refine ⟨rfl, _, rfl, _, rfl, ra, _, _, _, rfl, rfl, sqT_same M.same sr, atI_nat ie, rfl, ?_⟩
        have := M.yes hD (Same.refl _) rfl (by omega)
        rw [ee] at this
        rw [show (!decide (V.int (e.is.getD i 0) = V.int 0)) = decide (e.is.getD i 0 ≠ 0) from by rw [decide_not]; exact congrArg (!·) (by rw [Bool.eq_iff_iff, decide_eq_true_iff, decide_eq_true_iff]; exact ⟨V.int.inj, congrArg V.int⟩)]
        exact this
      · intro H1 M
        refine ⟨D, es.map (fun e => decide (e.is.getD i 0 ≠ 0)), rfl, SqL.of ?_, fin True _ H1 M.same ?_ h0⟩
        · rw [M.at_, made_all, xl, List.map_map]
          refine congrArg (fun l => some (HO.lst l)) ?_
          refine List.ext_getElem? fun k => ?_
          rw [List.getElem?_map, List.getElem?_map]
          by_cases hk : k < es.length
          · rw [List.getElem?_range hk, List.getElem?_eq_getElem hk]
            show some (V.bl _) = some (V.bl _)
            rw [List.getD_eq_getElem?_getD, List.getElem?_map, List.getElem?_eq_getElem hk]
            rfl
          · rw [List.getElem?_eq_none (by rw [List.length_range]; omega), List.getElem?_eq_none (by omega)]
            rfl
        · rw [List.any_map, List.any_eq_true]
          constructor
          · rintro ⟨e, he, z⟩
            exact ⟨e, he, of_decide_eq_true z⟩
          · rintro ⟨e, he, z⟩
            exact ⟨e, he, decide_eq_true z⟩
theorem scHangsOn : FnScope ["form", "result", "account", "moduli", "pieces", "rows", "piece"] ["form", "result", "account"] (defScope sHangsOn) := ⟨rfl, rfl, rfl, by decide +kernel, rfl, by decide +kernel, by decide +kernel⟩
theorem ok_hangson {f fC fI fAc fRi fRO fL fH : Addr} {fd fdC fdI fdAc fdRi fdRO fdL fdH : FuncData} (F : Fun K "hangs_on" "hangs_on" sHangsOn f fd) (T : TxtP4 mg fC fI fAc fRi fRO fL fH)
    (GC : FnOk P w K mg base CX0 3 fC fdC ["form"] (spCheckF K)) (kC : PySem.W.keepIn K (.ref fC) = true) (bC : Binds K fdC ["form"] [])
    (GI : FnOk P w K mg base CX0 1 fI fdI ["index", "many"] spChkI) (kI : PySem.W.keepIn K (.ref fI) = true) (bI : Binds K fdI ["index", "many"] [])
    (GA : FnOk P w K mg base CX0 1 fAc fdAc ["form"] (spAccIn K)) (kA : PySem.W.keepIn K (.ref fAc) = true) (bA : Binds K fdAc ["form"] [])
    (GR : FnOk P w K mg base CX0 1 fRi fdRi ["form"] (spResIn K)) (kR : PySem.W.keepIn K (.ref fRi) = true) (bR : Binds K fdRi ["form"] [])
    (GO : FnOk P w K mg base CX0 1 fRO fdRO ["piece"] (spRowsOf K)) (kO : PySem.W.keepIn K (.ref fRO) = true) (bO : Binds K fdRO ["piece"] [])
    (GL : FnOk P w K mg base CX0 2 fL fdL ["moduli", "pieces"] (spLeastW K)) (kL : PySem.W.keepIn K (.ref fL) = true) (bL : Binds K fdL ["moduli", "pieces"] [])
    (GH : FnOk P w K mg base CX0 1 fH fdH ["sheet", "index"] (spHangs K)) (kH : PySem.W.keepIn K (.ref fH) = true) (bH : Binds K fdH ["sheet", "index"] []) : FnOk P w K mg base CX0 4 f fd ["form", "result", "account"] (spHangsOn K) := by
  have nd := scHangsOn.nd
  refine F.ok scHangsOn (fun vs H Q E h => ?_) (fun cdv A outer s H vs Q E hr h => ?_)
  · obtain ⟨_, _, _, _, _, _, _, rfl, _⟩ := h
    rfl
  · obtain ⟨v, n, c, j, i, ms, ps, rfl, hv, O, jc, iN, q⟩ := h
    have hr1 : Room 1 _ := hr.mono (by decide)
    have hr2 : Room 2 _ := hr.mono (by decide)
    have hr3 : Room 3 _ := hr.mono (by decide)
    refine ⟨_, pss_cons (ps_expr (pe_call GC hr3 rfl T.gC kC bC .nil pass0 (pa_cons (pv 0) pa_nil)))
      (pss_cons (ps_expr (pe_call GI hr1 rfl T.gI kI bI .nil pass0 (pa_cons (pv 1) (pa_cons (pe_call GR hr1 rfl T.gRi kR bR .nil pass0 (pa_cons (pv 0) pa_nil)) pa_nil))))
      (pss_cons (ps_expr (pe_call GI hr1 rfl T.gI kI bI .nil pass0 (pa_cons (pv 2) (pa_cons (pe_call GA hr1 rfl T.gAc kA bA .nil pass0 (pa_cons (pv 0) pa_nil)) pa_nil))))
      (pss_cons (ps_asg (pv 0) (pg_tup rfl (pgs_cons (pg_name (i := 3) nd rfl (Or.inl rfl)) (pgs_cons (pg_name (i := 4) nd rfl (Or.inl rfl)) pgs_nil))))
      (pss_cons (ps_setLc (i := 5) (own := [("piece", 6)]) (g := gName 6) rfl nd rfl rfl (sw_true rfl rfl rfl (by decide +kernel)) (pi_list (pv 4))
          (blkOk_by (N := ["form", "result", "account", "moduli", "pieces", "rows", "piece"]) (sc := defScope sHangsOn) (by decide +kernel)) (fun _ _ _ _ _ => pg_name (i := 6) nd rfl (Or.inl rfl)) (fun _ _ _ _ _ => pts_nil)
          (fun _ _ _ _ _ => pe_ix (show IxR _ (rIxT K) from ix_tup) (pe_call GO hr1 rfl T.gRO kO bO .nil pass0 (pa_cons (pv 6) pa_nil)) (pv 1) (fun _ _ => rfl)))
      (pss_one (ps_ret (pe_call GH hr1 rfl T.gH kH bH .nil pass0 (pa_cons (pe_call GL hr2 rfl T.gL kL bL .nil pass0 (pa_cons (pe_callTy call_tuple_of (by rfl) T.tuple (by decide +kernel) (pa_cons (pv 3) pa_nil)) (pa_cons (pv 5) pa_nil))) (pa_cons (pv 2) pa_nil))))))))), ?_⟩
    have vv := O.vol
    have n4 := O.n4
    have c4 := O.c4
    have ll := O.len
    have pl := O.pl
    refine ⟨_, rfl, v, n, c, ms, ps, rfl, hv, O, fun H1 sm1 => ?_⟩
    have hv1 := dp_same sm1 hv
    obtain ⟨rs0, qs0, hps⟩ := O.cons
    have w0 := (O.wid rs0 (by rw [hps]; exact List.mem_cons_self)).2
    refine ⟨_, rfl, _, rfl, v, ms, rs0, qs0, rfl, by rw [← hps]; exact hv1, j, rs0.length, rfl, by omega, ?_⟩
    refine ⟨_, rfl, _, rfl, v, ms, ps, rfl, hv1, i, ms.length, rfl, by omega, ?_⟩
    obtain ⟨t, a, b, xs, rfl, st, sa, sb, dx⟩ := dp_form hv1
    have xl : xs.length = ps.length := by have := dpAll_len dx; rwa [List.length_map] at this
    refine ⟨_, rfl, t, _, rfl, st, rfl, _, _, rfl, _, _, rfl, rfl, ?_⟩
    refine ⟨_, rfl, b, rfl, ⟨_, sb⟩, fun D hD => ?_⟩
    refine lc_list (K := K) (a := b) (xs := xs) (fun k H' => ∃ vs cs, Filling H1 H' D ((ps.take k).map fun rs => lineD (rs.getD j ⟨[], 0⟩)) vs cs ∧ vs.length = k) ⟨_, _, Filling.start hD, rfl⟩ (fun k H' _ ⟨_, _, Fl, _⟩ => Fl.same.seq sb) ?_ ?_
    · rintro k x H2 hx ⟨vs, cs, Fl, hvl⟩
      obtain ⟨d, hd1, hd2⟩ := dpAll_get (dpAll_same Fl.same dx) hx
      rw [List.getElem?_map] at hd1
      obtain ⟨rs, er, rfl⟩ := Option.map_eq_some_iff.mp hd1
      have kl := (List.getElem?_eq_some_iff.mp er).1
      have mem := List.mem_of_getElem? er
      obtain ⟨w1, w2⟩ := O.wid rs mem
      refine ⟨rfl, _, rfl, x, rs, rfl, hd2, (O.piece rs mem).2, by omega, fun H3 p bs sm3 ow nw ndb => ?_⟩
      obtain ⟨tp, us, cs2, etp, htp, orows, ebs⟩ := ow
      obtain rfl := V.ref.inj etp
      have jl : j < rs.length := by omega
      obtain ⟨la, hla⟩ : ∃ la, us[j]? = some la := ⟨_, List.getElem?_eq_getElem (by have := orows.len; rw [List.length_map] at this; omega)⟩
      obtain ⟨dl, bl, hdl1, hdl2, hsub⟩ := orows.at hla
      rw [List.getElem?_map, List.getElem?_eq_getElem jl] at hdl1
      have edl : dl = lineD (rs.getD j ⟨[], 0⟩) := by
        rw [List.getD_eq_getElem?_getD, List.getElem?_eq_getElem jl]
        exact (Option.some.inj hdl1).symm
      rw [edl] at hdl2
      have ndl : bl.Nodup := by
        obtain ⟨z, zs, b0, rfl, hz, oz, rfl⟩ := hdl2
        obtain ⟨_, rfl⟩ := ints_own oz
        simp
      refine ⟨_, rfl, p, us, j, la, rfl, rfl, SqT.of htp, atI_nat hla, ?_⟩
      refine ⟨vs, sm3 _ _ Fl.at_, Nat.lt_of_le_of_lt (show vs.length ≤ 1000000 by omega) (by decide), vs ++ [la], cs ++ bl, ?_, by rw [List.length_append, hvl]; rfl⟩
      rw [List.take_add_one, er, List.map_append]
      exact Fl.more hD sm3 hdl2 (fun z hz => nw z (by rw [ebs]; exact List.mem_cons_of_mem _ (hsub z hz))) ndl
    · rintro H2 ⟨vs, cs, Fl, hvl⟩
      rw [xl, List.take_length] at Fl
      have TF : FM.Told (formF ms ps) ms ps := FM.told_told O.pos pl
      have TG := TF.comp (g := fun rs : List Line => lineD (rs.getD j ⟨[], 0⟩))
      refine ⟨_, rfl, a, _, rfl, .inl ⟨Fl.same.seq sa, fun tm htm => ?_⟩⟩
      have z2 := same_new (o := .tup (NL ms)) htm
      have k2 := Fl.same.trans z2
      have iD : IntDs (ps.map fun rs => lineD (rs.getD j ⟨[], 0⟩)) := intDs_iff.mpr fun d hd => by
        obtain ⟨rs, _, rfl⟩ := List.mem_map.mp hd
        exact intD_ints _
      have dD : PyData.depthAll (ps.map fun rs => lineD (rs.getD j ⟨[], 0⟩)) ≤ 20 := depthAll_le.mpr fun d hd => by
        obtain ⟨rs, _, rfl⟩ := List.mem_map.mp hd
        have g := (lay_il (rs.getD j ⟨[], 0⟩).row).2
        simp only [lineD, PyData.depth]
        omega
      refine ⟨_, rfl, tm, D, ms, vs, _, fun s => lineD (lineF ms ps j s), rfl, SqT.of upd_same, z2 _ _ Fl.at_, (Fl.own.same z2).dp, iD, dD, TG, by omega, by omega, fun H3 r t2 b2 ls ys es sm3 hr2 ht2 hb2 hys sub TL LL lls => ?_⟩
      obtain ⟨T3, e3⟩ := TL.uncomp (fun x y h => line_inj h)
      have L3 := LL.uncomp (fun x y h => line_inj h)
      rw [e3] at hys
      have lf : ∀ s, s.length = n → (lineF ms ps j s).is.length = n := fun s hs => by
        have m := O.mem hs
        obtain ⟨w1, w2⟩ := O.wid _ m
        unfold lineF
        rw [List.getD_eq_getElem?_getD, List.getElem?_eq_getElem (by omega)]
        exact w1 _ (List.getElem_mem _)
      have tm1 : ∀ e ∈ FM.tab ls (lineF ms ps j), ∃ s, s.length = n ∧ e = lineF ms ps j s := fun e he => by
        obtain ⟨k, hk⟩ := List.mem_iff_getElem?.mp he
        have kl := (List.getElem?_eq_some_iff.mp hk).1
        rw [FM.tab_len] at kl
        obtain ⟨rr, R, ek⟩ := FM.plc_sur kl
        rw [← ek, FM.tab_at R] at hk
        exact ⟨rr, by rw [FM.rest_len R]; omega, (Option.some.inj hk).symm⟩
      have lp : FM.vol ls ≤ FM.vol ms := vol_parts (by omega) O.pos fun k l m hl hm => by
        have q1 := (L3.atI hl).2.2 _ (O.pos _ (List.mem_of_getElem? hm))
        rw [lls] at q1
        refine q1 ((TF.comp (g := fun rs : List Line => rs.getD j ⟨[], 0⟩)).perI hm)
      refine ⟨_, rfl, r, t2, b2, ls, ys, FM.tab ls (lineF ms ps j), i, rfl, SqT.of hr2, SqT.of ht2, SqL.of hb2, hys, by omega, fun e he => by
        obtain ⟨s, hs, rfl⟩ := tm1 e he
        rw [lf s hs]
        omega, by rw [FM.tab_len]; omega, fun H4 B sm4 hB => ?_⟩
      refine q H4 B ls ((sm1.trans k2).trans (sm3.trans sm4)) L3 (by omega) ?_
      rw [hB]
      constructor
      · rintro (h | ⟨e, he, h⟩)
        · exact .inl h
        · obtain ⟨s, hs, rfl⟩ := tm1 e he
          exact .inr ⟨s, hs, h⟩
      · rintro (h | ⟨s, hs, h⟩)
        · exact .inl h
        · have rl := FM.modl_rest T3.pos (show s.length = ls.length by omega)
          refine .inr ⟨lineF ms ps j (FM.modl ls s), List.mem_of_getElem? (FM.tab_at rl), ?_⟩
          rw [T3.modl (by omega)]
          exact h
end
end K09

set_option Elab.async false
set_option linter.all false
set_option maxRecDepth 100000
set_option maxHeartbeats 4000000
set_option exponentiation.threshold 5000
namespace K09
open PySem L2 DL PySem.HouseX CM
def spState : Sp := fun vs H Q _ => ∃ (sk : Addr) (k n top : Nat), vs = [.ref sk, .int n, .int top] ∧ SackAt H sk k ∧ k ≤ 900000000 ∧ n ≤ 4 ∧ top ≤ 1000000000 ∧
  ∀ H' p st, Fr sk H H' → SackAt H' sk (k + n) → H p = none → H' p = some (.lst (IL st)) → st.length = n → (∀ x ∈ st, x.natAbs ≤ top) → Q (.ref p) H'
def spModuli : Sp := fun vs H Q _ => ∃ (sk : Addr) (k n top : Nat), vs = [.ref sk, .int n, .int top] ∧ SackAt H sk k ∧ k ≤ 900000000 ∧ n ≤ 4 ∧ 0 < n ∧ 0 < top ∧ top ≤ 1000 ∧
  ∀ H' p ms, Fr sk H H' → SackAt H' sk (k + 20) → H p = none → H' p = some (.lst (NL ms)) → ms.length = n → (∀ m ∈ ms, 0 < m) → FM.vol ms ≤ top → Q (.ref p) H'
structure TxtQ1 (mg : Str → Option Value) (fP : Addr) : Prop where
  range : mg "range" = none
  min : mg "min" = none
  gP : mg "_law_hd_pick" = some (.ref fP)
section
variable {P : Program} {w : World} {K : PySem.W.Frag} {mg : Str → Option Value} {base : Heap}
theorem scState : FnScope ["_law_sack", "_law_many", "_law_top", "_law_turn"] ["_law_sack", "_law_many", "_law_top"] (defScope sLState) := ⟨rfl, rfl, rfl, by decide +kernel, rfl, by decide +kernel, by decide +kernel⟩
theorem ok_state {f fP : Addr} {fd fdP : FuncData} (F : Fun K "_law_hd_state" "_law_hd_state" sLState f fd) (T : TxtQ1 mg fP)
    (GP : FnOk P w K mg base CX0 1 fP fdP ["_law_sack", "_law_many"] spPick) (kP : PySem.W.keepIn K (.ref fP) = true) (bP : Binds K fdP ["_law_sack", "_law_many"] []) : FnOk P w K mg base CX0 2 f fd ["_law_sack", "_law_many", "_law_top"] spState := by
  have nd := scState.nd
  refine F.ok scState (fun vs H Q E h => ?_) (fun cdv A outer s H vs Q E hr h => ?_)
  · obtain ⟨_, _, _, _, rfl, _⟩ := h
    rfl
  · obtain ⟨sk, k, n, top, rfl, hsk, kb, n4, tb, q⟩ := h
    refine ⟨_, pss_one (ps_ret (pe_lc (own := [("_law_turn", 3)]) (g := gName 3) rfl nd (pi_range1 (by rfl) T.range (pa_cons (pv 1) pa_nil))
      (blkOk_by (N := ["_law_sack", "_law_many", "_law_top", "_law_turn"]) (sc := defScope sLState) (by decide +kernel)) (fun _ _ _ _ _ => pg_name (i := 3) nd rfl (Or.inl rfl)) (fun _ _ _ _ _ => pts_nil)
      (fun _ _ _ _ _ => pe_op op_sub (pe_call GP hr rfl T.gP kP bP .nil pass0 (pa_cons (pv 0) (pa_cons (pe_op op_add (pe_op op_mul pe_int (pv 2)) pe_int) pa_nil))) (pv 2)))), ?_⟩
    refine ⟨_, rfl, n, rfl, by omega, by omega, fun E1 hE1 => ?_⟩
    have nE1 := hsk.ne hE1
    refine lc_it (walk_range (lo := 0) (n := n)) (fun j H' => ∃ ys, Ints sk H H' E1 top j (k + j) ys) ⟨[], Ints.start hsk hE1⟩ (fun _ _ _ _ => trivial) ?_ ?_
    · rintro j x H3 H3' hj ⟨ys, I⟩ ⟨rfl, rfl⟩
      refine ⟨rfl, _, rfl, _, rfl, _, _, rfl, rfl, .inl ⟨by decide, by omega⟩, _, _, rfl, rfl, sk, _, _, rfl, I.sack, by omega, by omega, by omega, fun H4 z z0 z1 q4 s4 => ?_⟩
      obtain ⟨m1, m2⟩ := I.more (y := z - (top : Nat)) hE1 (Ne.symm nE1) (Fr.of_eq q4) s4 (by omega)
      refine ⟨_, rfl, _, _, rfl, rfl, IL ys, m1, ?_, ys ++ [z - (top : Nat)], m2⟩
      have := I.len
      unfold IL
      rw [List.length_map]
      exact Nat.lt_of_le_of_lt (show _ ≤ 100 by omega) (by decide)
    · rintro H3 ⟨ys, I⟩
      exact q H3 E1 ys I.fr I.sack hE1 I.at_ I.len I.le
theorem scModuli : FnScope ["_law_sack", "_law_many", "_law_top", "_law_found", "_law_left", "_law_rank", "_law_modulus_here", "_law_spot"] ["_law_sack", "_law_many", "_law_top"] (defScope sLModuli) := ⟨rfl, rfl, rfl, by decide +kernel, rfl, by decide +kernel, by decide +kernel⟩
theorem ok_moduli {f fP : Addr} {fd fdP : FuncData} (F : Fun K "_law_hd_moduli" "_law_hd_moduli" sLModuli f fd) (T : TxtQ1 mg fP)
    (GP : FnOk P w K mg base CX0 1 fP fdP ["_law_sack", "_law_many"] spPick) (kP : PySem.W.keepIn K (.ref fP) = true) (bP : Binds K fdP ["_law_sack", "_law_many"] []) : FnOk P w K mg base CX0 2 f fd ["_law_sack", "_law_many", "_law_top"] spModuli := by
  have nd := scModuli.nd
  refine F.ok scModuli (fun vs H Q E h => ?_) (fun cdv A outer s H vs Q E hr h => ?_)
  · obtain ⟨_, _, _, _, rfl, _⟩ := h
    rfl
  · obtain ⟨sk, k, n, top, rfl, hsk, kb, n4, n0, t0, tb, q⟩ := h
    refine ⟨_, pss_cons (ps_par (i := 3) (j := 4) (by rfl) nd rfl rfl (by decide) rfl rfl (pa_cons (pe_lst pa_nil) (pa_cons (pv 2) pa_nil)) (by rfl))
      (pss_cons (ps_for PassesOwn.never rfl (pi_range1 (by rfl) T.range (pa_cons (pv 1) pa_nil)) (pg_name (i := 5) nd rfl (Or.inl rfl))
        (pss_cons (ps_set (i := 6) nd rfl (Or.inl rfl) (pe_op op_add pe_int (pe_call GP hr rfl T.gP kP bP .nil pass0 (pa_cons (pv 0) (pa_cons (pe_callB (call_min2 rfl) (by rfl) T.min (by decide +kernel) (pa_cons (pv 4) (pa_cons (pe_ix ix_list (pe_lst (pa_cons pe_int (pa_cons pe_int (pa_cons pe_int pa_nil)))) (pe_call GP hr rfl T.gP kP bP .nil pass0 (pa_cons (pv 0) (pa_cons pe_int pa_nil))) (fun _ _ => rfl)) pa_nil))) pa_nil)))))
        (pss_cons (ps_expr (pe_bm PySem.F.plainAttrs_list PySem.F.slot_list_append PySem.F.type_list_append mt_append (pv 3) (pa_cons (pv 6) pa_nil)))
        (pss_one (ps_set (i := 4) nd rfl (Or.inl rfl) (pe_op op_fdivN (pv 4) (pv 6)))))))
      (pss_cons (ps_set (i := 7) nd rfl (Or.inl rfl) (pe_call GP hr rfl T.gP kP bP .nil pass0 (pa_cons (pv 0) (pa_cons (pv 1) pa_nil))))
      (pss_one (ps_ret (pe_op op_cat (pe_slice (show SlR _ (rSlL K) from sl_list) (pv 3) (po_some (pv 7)) po_none) (pe_slice (show SlR _ (rSlL K) from sl_list) (pv 3) po_none (po_some (pv 7)))))))), ?_⟩
    refine ⟨Nat.zero_le _, fun D hD => ?_⟩
    have nD := hsk.ne hD
    refine ⟨_, rfl, _, _, rfl, ?_⟩
    refine ⟨_, rfl, n, rfl, by omega, by omega, ?_⟩
    refine for_it (walk_range (lo := 0) (n := n)) (fun i σ H' => ∃ (ms : List Nat) (left : Nat) (x5 x6 : Option V), σ = [some (.ref sk), some (.int (n : Nat)), some (.int (top : Nat)), some (.ref D), some (.int (left : Nat)), x5, x6, none] ∧ ms.length = i ∧ (∀ m ∈ ms, 0 < m) ∧ 0 < left ∧ FM.vol ms * left ≤ top ∧ Fr sk H H' ∧ SackAt H' sk (k + 2 * i) ∧ H' D = some (.lst (NL ms)))
      ⟨[], top, _, _, rfl, rfl, (fun _ h => nomatch h), t0, by simp [FM.vol], Fr.refl.put hD, hsk.put nD, upd_same⟩ (fun _ _ _ _ _ => trivial) ?_ ?_
    · rintro i x σ H2 H2' hi ⟨ms, left, x5, x6, rfl, ml, mp, l0, lv, f2, s2, hD2⟩ ⟨rfl, rfl⟩
      have vp := FM.vol_pos mp
      have lt : left ≤ top := Nat.le_trans (Nat.le_mul_of_pos_left _ vp) lv
      refine ⟨_, rfl, _, rfl, ?_⟩
      refine ⟨(by show 3 ≤ sizeLine; decide), fun a0 h0 => ?_⟩
      have n0' := s2.ne h0
      have z0 := same_new (o := .lst [V.int 2, V.int 4, V.int 12]) h0
      refine ⟨_, rfl, sk, _, 3, rfl, s2.put n0', by omega, by decide, by decide, fun H3 z z1 z2 q3 s3 => ?_⟩
      have at0 : H3 a0 = some (.lst [V.int 2, V.int 4, V.int 12]) := (q3 a0 (Ne.symm n0')).trans upd_same
      obtain ⟨b, hb, b2⟩ : ∃ b : Nat, atI [V.int 2, V.int 4, V.int 12] z = some (V.int (b : Nat)) ∧ 0 < b := by
        rcases (show z = 0 ∨ z = 1 ∨ z = 2 by omega) with rfl | rfl | rfl
        · exact ⟨2, rfl, by decide⟩
        · exact ⟨4, rfl, by decide⟩
        · exact ⟨12, rfl, by decide⟩
      refine ⟨a0, _, _, _, rfl, rfl, SqL.of at0, hb, _, _, rfl, ?_⟩
      obtain ⟨N, hN, N0, N1⟩ : ∃ N : Int, (if (b : Int) < (left : Nat) then (b : Int) else ((left : Nat) : Int)) = N ∧ 0 < N ∧ N ≤ (left : Nat) := ⟨_, rfl, by split <;> omega, by split <;> omega⟩
      rw [hN]
      refine ⟨sk, _, N, rfl, s3, by omega, N0, by omega, fun H4 y y0 y1 q4 s4 => ?_⟩
      obtain ⟨m, hm, m0, mle⟩ : ∃ m : Nat, 1 + y = (m : Int) ∧ 0 < m ∧ m ≤ left := ⟨1 + y.toNat, by omega, by omega, by omega⟩
      refine ⟨_, _, rfl, rfl, ?_⟩
      dsimp only
      rw [hm]
      have f4 := (f2.put h0).trans ((Fr.of_eq q3).trans (Fr.of_eq q4))
      have Da : D ≠ a0 := fun e => by
        rw [e, h0] at hD2
        cases hD2
      have hD4 : H4 D = some (.lst (NL ms)) := (q4 D (Ne.symm nD)).trans ((q3 D (Ne.symm nD)).trans ((upd_ne Da).trans hD2))
      have mll : (NL ms).length = i := by unfold NL; rw [List.length_map, ml]
      refine ⟨_, rfl, .inl ⟨rfl, _, SqL.of hD4⟩, _, rfl, D, NL ms, _, rfl, rfl, hD4, Nat.lt_of_le_of_lt (show _ ≤ 100 by omega) (by decide), ?_⟩
      refine ⟨_, rfl, _, rfl, _, _, rfl, rfl, ⟨by omega, by omega⟩, ?_⟩
      have fe : ((left : Nat) : Int).fdiv (m : Nat) = ((left / m : Nat) : Int) := by
        rw [Int.fdiv_eq_ediv_of_nonneg _ (by omega)]
        rfl
      refine ⟨ms ++ [m], left / m, some (.int (0 + ((i : Nat) : Int))), some (.int (m : Nat)), ?_, by rw [List.length_append, ml]; rfl, fun x hx => ?_, Nat.div_pos mle m0, ?_, fun b' hb' o e => ?_, ?_, by rw [upd_same, nl_snoc _ _ rfl]⟩
      · rw [← fe]
        rfl
      · rcases List.mem_append.mp hx with z | z
        · exact mp x z
        · rw [List.mem_singleton.mp z]; exact m0
      · rw [FM.vol_app]
        have e1 : FM.vol [m] = m := by simp [FM.vol]
        rw [e1, Nat.mul_assoc]
        exact Nat.le_trans (Nat.mul_le_mul_left _ (Nat.mul_div_le left m)) lv
      · rw [upd_ne (ne_of_none e hD)]
        exact f4 b' hb' o e
      · rw [show k + 2 * (i + 1) = k + 2 * i + 1 + 1 by omega]
        exact s4.put nD
    · rintro σ H2 ⟨ms, left, x5, x6, rfl, ml, mp, l0, lv, f2, s2, hD2⟩
      refine ⟨_, rfl, _, rfl, sk, _, n, rfl, s2, by omega, by omega, by omega, fun H3 z z0 z1 q3 s3 => ?_⟩
      obtain ⟨j, rfl⟩ : ∃ j : Nat, z = (j : Int) := ⟨z.toNat, (Int.toNat_of_nonneg z0).symm⟩
      have f3 := f2.trans (Fr.of_eq q3)
      have hD3 := (q3 D (Ne.symm nD)).trans hD2
      have mll : (NL ms).length = n := by unfold NL; rw [List.length_map, ml]
      have c1 : cutV (NL ms) (some ((j : Nat) : Int)) none = NL (ms.drop j) := by
        unfold cutV
        rw [HT.sIx_nat, show HT.sIx (NL ms).length (NL ms).length none = (NL ms).length from rfl, Nat.min_eq_left (by omega), List.take_of_length_le (by rw [List.length_drop]; omega)]
        unfold NL
        rw [List.map_drop]
      have c2 : cutV (NL ms) none (some ((j : Nat) : Int)) = NL (ms.take j) := by
        unfold cutV
        rw [HT.sIx_nat, show HT.sIx (NL ms).length 0 none = 0 from rfl, Nat.min_eq_left (by omega), List.drop_zero, Nat.sub_zero]
        unfold NL
        rw [List.map_take]
      refine ⟨_, rfl, _, rfl, _, rfl, D, _, rfl, SqL.of hD3, fun p1 hp1 => ?_⟩
      rw [c1]
      have z1' := same_new (o := .lst (NL (ms.drop j))) hp1
      refine ⟨_, rfl, _, rfl, _, rfl, D, _, rfl, SqL.of (z1' _ _ hD3), fun p2 hp2 => ?_⟩
      rw [c2]
      have z2' := same_new (o := .lst (NL (ms.take j))) hp2
      have l1 : (NL (ms.drop j)).length + (NL (ms.take j)).length = n := by
        unfold NL
        rw [List.length_map, List.length_map, List.length_drop, List.length_take]
        omega
      refine ⟨p1, p2, _, _, rfl, rfl, z2' _ _ upd_same, upd_same, by rw [l1]; exact Nat.le_trans (show n ≤ 4 from n4) (by decide), fun p hp => ?_⟩
      have z3' := same_new (o := .lst (NL (ms.drop j) ++ NL (ms.take j))) hp
      have kk := (z1'.trans z2').trans z3'
      refine q _ p (ms.drop j ++ ms.take j) (f3.trans (Fr.of_same kk)) ((s3.le (by omega)).same kk) (f3.back s3 ((z1'.trans z2').free hp)) ?_ ?_ ?_ ?_
      · rw [upd_same]
        unfold NL
        rw [List.map_append]
      · rw [List.length_append, List.length_drop, List.length_take]
        omega
      · intro m hm
        rcases List.mem_append.mp hm with z | z
        · exact mp m (List.mem_of_mem_drop z)
        · exact mp m (List.mem_of_mem_take z)
      · rw [FM.vol_app, Nat.mul_comm, ← FM.vol_app, List.take_append_drop]
        exact Nat.le_trans (Nat.le_mul_of_pos_right _ l0) lv
end
end K09

set_option Elab.async false
set_option linter.all false
set_option maxRecDepth 100000
set_option maxHeartbeats 4000000
set_option exponentiation.threshold 5000
namespace K09
open PySem L2 DL PySem.HouseX CM
def Small (ps : List (List Line)) : Prop := ∀ rs ∈ ps, ∀ r ∈ rs, (∀ x ∈ r.is, x.natAbs ≤ 20) ∧ r.am.natAbs ≤ 20
def spDrawnF : Sp := fun vs H Q _ => ∃ (sk : Addr) (k n c most : Nat), vs = [.ref sk, .int n, .int c, .int most] ∧ SackAt H sk k ∧ k ≤ 800000000 ∧ 0 < n ∧ n ≤ 4 ∧ 0 < c ∧ c ≤ 4 ∧ 0 < most ∧ most ≤ 600 ∧
  ∀ H' v as ms ps, Fr sk H H' → SackAt H' sk (k + 2000) → Own H' (formD ms ps) v as → New H as → as.Nodup → FK n c ms ps → FM.vol ms ≤ most → Small ps → Q v H'
structure TxtQ2 (mg : Str → Option Value) (fP fM fD fR fC : Addr) : Prop where
  int : mg "int" = none
  len : mg "len" = none
  sum : mg "sum" = none
  range : mg "range" = none
  enum : mg "enumerate" = none
  gP : mg "_law_hd_pick" = some (.ref fP)
  gM : mg "_law_hd_moduli" = some (.ref fM)
  gD : mg "_law_hd_drawn_piece" = some (.ref fD)
  gR : mg "_law_hd_rests" = some (.ref fR)
  gC : mg "_law_hd_copy" = some (.ref fC)
section
variable {P : Program} {w : World} {K : PySem.W.Frag} {mg : Str → Option Value} {base : Heap}
theorem scDrawnF : FnScope ["_law_sack", "_law_many", "_law_results", "_law_most", "_law_moduli", "_law_stock", "_law_turn", "_law_kind", "_law_pieces_here", "_law_rank", "_law_rests_here", "_law_spot"] ["_law_sack", "_law_many", "_law_results", "_law_most"] (defScope sLDrawnF) := ⟨rfl, rfl, rfl, by decide +kernel, rfl, by decide +kernel, by decide +kernel⟩
theorem ok_drawnf {f fP fM fD fR fC : Addr} {fd fdP fdM fdD fdR fdC : FuncData} (F : Fun K "_law_hd_drawn_form" "_law_hd_drawn_form" sLDrawnF f fd) (T : TxtQ2 mg fP fM fD fR fC)
    (GP : FnOk P w K mg base CX0 1 fP fdP ["_law_sack", "_law_many"] spPick) (kP : PySem.W.keepIn K (.ref fP) = true) (bP : Binds K fdP ["_law_sack", "_law_many"] [])
    (GM : FnOk P w K mg base CX0 2 fM fdM ["_law_sack", "_law_many", "_law_top"] spModuli) (kM : PySem.W.keepIn K (.ref fM) = true) (bM : Binds K fdM ["_law_sack", "_law_many", "_law_top"] [])
    (GD : FnOk P w K mg base CX0 2 fD fdD ["_law_sack", "_law_many", "_law_results", "_law_top"] spDrawn) (kD : PySem.W.keepIn K (.ref fD) = true) (bD : Binds K fdD ["_law_sack", "_law_many", "_law_results", "_law_top"] [])
    (GR : FnOk P w K mg base CX0 1 fR fdR ["_law_moduli"] (spLRests K)) (kR : PySem.W.keepIn K (.ref fR) = true) (bR : Binds K fdR ["_law_moduli"] [])
    (GC : FnOk P w K mg base CX0 4 fC fdC ["_law_thing"] (spCopy 3)) (kC : PySem.W.keepIn K (.ref fC) = true) (bC : Binds K fdC ["_law_thing"] []) : FnOk P w K mg base CX0 5 f fd ["_law_sack", "_law_many", "_law_results", "_law_most"] spDrawnF := by
  have nd := scDrawnF.nd
  refine F.ok scDrawnF (fun vs H Q E h => ?_) (fun cdv A outer s H vs Q E hr h => ?_)
  · obtain ⟨_, _, _, _, _, rfl, _⟩ := h
    rfl
  · obtain ⟨sk, k, n, c, most, rfl, hsk, kb, n0, n4, c0, c4, t0, t6, q⟩ := h
    have hr1 : Room 1 _ := hr.mono (by decide)
    have hr2 : Room 2 _ := hr.mono (by decide)
    refine ⟨_, pss_cons (ps_par (i := 4) (j := 5) (by rfl) nd rfl rfl (by decide) rfl rfl (pa_cons (pe_call GM hr2 rfl T.gM kM bM .nil pass0 (pa_cons (pv 0) (pa_cons (pv 1) (pa_cons (pv 3) pa_nil)))) (pa_cons (pe_lst pa_nil) pa_nil)) (by rfl))
      (pss_cons (ps_for PassesOwn.never rfl (pi_range1 (by rfl) T.range (pa_cons (pe_op op_add pe_int (pe_call GP hr1 rfl T.gP kP bP .nil pass0 (pa_cons (pv 0) (pa_cons pe_int pa_nil)))) pa_nil)) (pg_name (i := 6) nd rfl (Or.inl rfl))
        (pss_one (ps_expr (pe_bm PySem.F.plainAttrs_list PySem.F.slot_list_append PySem.F.type_list_append mt_append (pv 5) (pa_cons (pe_call GD hr2 rfl T.gD kD bD .nil pass0 (pa_cons (pv 0) (pa_cons (pv 1) (pa_cons (pv 2) (pa_cons
          (pe_ix ix_list (pe_lst (pa_cons pe_int (pa_cons pe_int pa_nil))) (pe_call GP hr1 rfl T.gP kP bP .nil pass0 (pa_cons (pv 0) (pa_cons pe_int pa_nil))) (fun _ _ => rfl)) pa_nil))))) pa_nil)))))
      (pss_cons (ps_par (i := 7) (j := 8) (by rfl) nd rfl rfl (by decide) rfl rfl (pa_cons (pe_call GP hr1 rfl T.gP kP bP .nil pass0 (pa_cons (pv 0) (pa_cons pe_int pa_nil))) (pa_cons (pe_lst pa_nil) pa_nil)) (by rfl))
      (pss_cons (ps_for PassesOwn.never rfl (pi_enum (by rfl) T.enum (pa_cons (pe_call GR hr1 rfl T.gR kR bR .nil pass0 (pa_cons (pv 4) pa_nil)) pa_nil)) (pg_tup rfl (pgs_cons (pg_name (i := 9) nd rfl (Or.inl rfl)) (pgs_cons (pg_name (i := 10) nd rfl (Or.inl rfl)) pgs_nil)))
        (pss_cons (ps_set (i := 11) nd rfl (Or.inl rfl) (pe_ix ix_list (pe_lst (pa_cons (pe_callB (cr_sum rfl) (by rfl) T.sum (by decide +kernel) (pa_cons (pv 10) pa_nil)) (pa_cons (pe_ix ix_list (pv 10) pe_int (fun _ _ => rfl)) (pa_cons (pe_call GP hr1 rfl T.gP kP bP .nil pass0 (pa_cons (pv 0) (pa_cons (pe_callB call_len_seq (by rfl) T.len PySem.boot_len (pa_cons (pv 5) pa_nil)) pa_nil))) pa_nil)))) (pv 7) (fun _ _ => rfl)))
        (pss_one (ps_expr (pe_bm PySem.F.plainAttrs_list PySem.F.slot_list_append PySem.F.type_list_append mt_append (pv 8) (pa_cons (pe_call GC hr rfl T.gC kC bC .nil pass0 (pa_cons (pe_ix ix_list (pv 5) (pe_op op_modN (pe_callTy call_int1 (by rfl) T.int (by decide +kernel) (pa_cons (pv 11) pa_nil)) (pe_callB call_len_seq (by rfl) T.len PySem.boot_len (pa_cons (pv 5) pa_nil))) (fun _ _ => rfl)) pa_nil)) pa_nil))))))
      (pss_one (ps_ret (pe_tup (pa_cons (pv 4) (pa_cons (pv 8) pa_nil)))))))), ?_⟩
    have szz : (10000000 : Nat) ≤ sizeLine := by decide
    refine ⟨_, rfl, _, rfl, _, rfl, sk, k, n, most, rfl, hsk, by omega, n4, n0, t0, by omega, fun H1 Mo ms f1 s1 nwM hMo ml posm vm => ?_⟩
    refine ⟨Nat.zero_le _, fun D hD => ⟨_, _, rfl, ?_⟩⟩
    have nD := s1.ne hD
    have nM := hsk.ne nwM
    have zD := same_new (o := .lst []) hD
    refine ⟨_, rfl, sk, _, 4, rfl, s1.put nD, by omega, by decide, by decide, fun H2 z z0 z1 q2 s2 => ?_⟩
    have hD2 : H2 D = some (.lst []) := (q2 D (Ne.symm nD)).trans upd_same
    have g2 : Fr sk H1 H2 := (Fr.of_same zD).trans (Fr.of_eq q2)
    refine ⟨_, _, rfl, rfl, _, rfl, by omega, by omega, ?_⟩
    have zn : (1 + z).toNat ≤ 4 := by omega
    refine for_it (walk_range (lo := 0) (n := (1 + z).toNat)) (fun j σ H' => ∃ (rss : List (List Line)) (vs : List V) (cs : List Addr) (x6 : Option V), σ = [some (.ref sk), some (.int (n : Nat)), some (.int (c : Nat)), some (.int (most : Nat)), some (.ref Mo), some (.ref D), x6, none, none, none, none, none] ∧ FillF sk H1 H' D (rss.map pieceD) vs cs (k + 21 + 41 * j) ∧ rss.length = j ∧ (∀ rs ∈ rss, WidC n c rs) ∧ Small rss)
      ⟨[], [], [], _, rfl, ⟨hD2, ⟨rfl, rfl⟩, g2, by simpa using s2, new_nil, (fun z => nomatch z), List.nodup_nil, s1.has⟩, rfl, (fun _ h => nomatch h), fun _ h => nomatch h⟩ (fun _ _ _ _ _ => trivial) ?_ ?_
    · rintro j x σ H3 H3' hj ⟨rss, vs, cs, x6, rfl, Fl, rl, wd, ty⟩ ⟨rfl, rfl⟩
      refine ⟨_, rfl, .inl ⟨rfl, _, SqL.of Fl.at_⟩, _, rfl, _, rfl, _, rfl, (by show 2 ≤ sizeLine; decide), fun a0 h0 => ?_⟩
      have na0 := Fl.sack.ne h0
      refine ⟨_, rfl, sk, _, 2, rfl, Fl.sack.put na0, by omega, by decide, by decide, fun H4 y y0 y1 q4 s4 => ?_⟩
      have at0 : H4 a0 = some (.lst [V.int 2, V.int 9]) := (q4 a0 (Ne.symm na0)).trans upd_same
      obtain ⟨b, hb, b9⟩ : ∃ b : Nat, atI [V.int 2, V.int 9] y = some (V.int (b : Nat)) ∧ b ≤ 9 := by
        rcases (show y = 0 ∨ y = 1 by omega) with rfl | rfl
        · exact ⟨2, rfl, by decide⟩
        · exact ⟨9, rfl, by decide⟩
      have f4 : Fr sk H3' H4 := (Fr.refl.put h0).trans (Fr.of_eq q4)
      refine ⟨a0, _, _, _, rfl, rfl, SqL.of at0, hb, sk, _, n, c, b, rfl, s4, by omega, n4, n0, c4, by omega, fun H5 v as rs f5 s5 ow nw ndp wid tiny => ?_⟩
      have bk : ∀ b, H4 b = none → H3' b = none := fun b => Fr.back f4 s4
      obtain ⟨m1, m2⟩ := Fl.more hD nD (f4.trans f5) s5 ow (fun b hb => bk b (nw b hb)) ndp
      have vl := Fl.own.len
      rw [List.length_map, rl] at vl
      refine ⟨D, vs, _, rfl, rfl, m1, Nat.lt_of_lt_of_le (show _ < 10000000 by omega) szz, rss ++ [rs], vs ++ [v], cs ++ as, _, rfl, ?_, by rw [List.length_append, rl]; rfl, fun r hr => ?_, fun r hr => ?_⟩
      · rw [List.map_append, show k + 21 + 41 * (j + 1) = k + 21 + 41 * j + 1 + 40 by omega]
        exact m2
      · rcases List.mem_append.mp hr with z | z
        · exact wd r z
        · rw [List.mem_singleton.mp z]; exact wid
      · rcases List.mem_append.mp hr with z | z
        · exact ty r z
        · rw [List.mem_singleton.mp z]
          exact fun l hl => ⟨fun x hx => by have := (tiny l hl).1 x hx; omega, by have := (tiny l hl).2; omega⟩
    · rintro σ H3 ⟨rss, vs, cs, x6, rfl, Fl, rl, wd, ty⟩
      refine ⟨_, rfl, sk, _, 3, rfl, Fl.sack, by omega, by decide, by decide, fun H4 kd kd0 kd1 q4 s4 => ?_⟩
      have e4 : Fr sk H3 H4 := Fr.of_eq q4
      have f4 : Fr sk H1 H4 := Fl.fr.trans e4
      have hMo4 := f4 _ (Ne.symm nM) _ hMo
      have po : sk ∉ cs := fun z => by
        have e := Fl.new sk z
        obtain ⟨o, q⟩ := Fl.has
        rw [e] at q
        cases q
      have own4 := Fl.own.fr po e4
      have hD4 := e4 _ (Ne.symm nD) _ Fl.at_
      have vl : vs.length = rss.length := by have := Fl.own.len; rwa [List.length_map] at this
      refine ⟨Nat.zero_le _, fun Pi hPi => ⟨_, _, rfl, ?_⟩⟩
      have nPi := s4.ne hPi
      have zPi := same_new (o := .lst []) hPi
      refine ⟨_, rfl, Mo, ms, rfl, SqL.of (zPi _ _ hMo4), posm, by omega, by omega, fun H5 rp rx rcs sm5 hrp ro rnew => ?_⟩
      refine ⟨rp, rx, rfl, SqL.of hrp, ?_⟩
      have k5 := zPi.trans sm5
      have s5 := s4.same k5
      have rxl : rx.length = FM.vol ms := by
        have := ro.len
        rw [List.length_map] at this
        rw [this]
        exact FM.tab_len _ _
      have hPi5 := sm5 _ _ (show upd H4 Pi (.lst []) Pi = some (.lst []) from upd_same)
      have noS : ∀ x ∈ rp :: rcs, x ≠ sk := fun x hx e => by
        have := rnew x hx
        rw [e] at this
        exact absurd rfl ((s4.put (o := .lst []) nPi).ne this)
      have noP : ∀ x ∈ rp :: rcs, x ≠ Pi := fun x hx e => by
        have := rnew x hx
        rw [e, upd_same] at this
        cases this
      obtain ⟨k0, hk0, hk1⟩ : ∃ k0, k0 = k + 21 + 41 * (1 + z).toNat + 1 ∧ k0 ≤ k + 200 := ⟨_, rfl, by omega⟩
      rw [← hk0] at s5
      have lpos : 0 < rss.length := by omega
      refine for_it (walk_enum (K := K) (a := rp) (xs := rx)) (fun i σ H' => ∃ (ps : List (List Line)) (vs2 : List V) (cs2 : List Addr) (x9 x10 x11 : Option V), σ = [some (.ref sk), some (.int (n : Nat)), some (.int (c : Nat)), some (.int (most : Nat)), some (.ref Mo), some (.ref D), x6, some (.int kd), some (.ref Pi), x9, x10, x11] ∧ FillF sk H4 H' Pi (ps.map pieceD) vs2 cs2 (k0 + i) ∧ (∀ b, b ≠ sk → b ≠ Pi → ∀ o, H5 b = some o → H' b = some o) ∧ ps.length = i ∧ (∀ rs ∈ ps, rs ∈ rss))
        ⟨[], [], [], _, _, _, rfl, ⟨hPi5, ⟨rfl, rfl⟩, Fr.of_same k5, s5, new_nil, (fun z => nomatch z), List.nodup_nil, s4.has⟩, (fun _ _ _ _ e => e), rfl, fun _ h => nomatch h⟩ (fun i σ H' _ ⟨_, _, _, _, _, _, _, F2, f5, _⟩ => SqL.of (f5 _ (noS rp List.mem_cons_self) (noP rp List.mem_cons_self) _ hrp)) ?_ ?_
      · rintro i x σ H6 H6' hi ⟨ps, vs2, cs2, x9, x10, x11, rfl, F2, f6, pl2, pin⟩ ⟨T', vx, vy, rfl, hT, rfl, hx, hy⟩
        have ex : vx = V.int (i : Nat) := (Option.some.inj hx).symm
        subst ex
        have hy' : rx[i]? = some vy := hy
        have il := (List.getElem?_eq_some_iff.mp hy').1
        obtain ⟨d, b2, hd1, hd2, hd3⟩ := ro.at hy'
        rw [List.getElem?_map] at hd1
        obtain ⟨r, er, rfl⟩ := Option.map_eq_some_iff.mp hd1
        obtain ⟨ra, rfl, hra⟩ := own_nats hd2
        have rlen : r.length = ms.length := FM.rest_len (rest_of (List.mem_of_getElem? er))
        have ram : ra ∈ rcs := by
          obtain ⟨a', xs', bs', e1, e2, e3, e4⟩ := hd2
          obtain rfl := V.ref.inj e1
          exact hd3 ra (by rw [e4]; exact List.mem_cons_self)
        have nra := noS ra (List.mem_cons_of_mem _ ram)
        have zT := same_new (o := .tup [V.int (i : Nat), V.ref ra]) hT
        have hra6 := zT _ _ (f6 _ nra (noP ra (List.mem_cons_of_mem _ ram)) _ hra)
        have hS6 : upd H6 T' (.tup [V.int (i : Nat), V.ref ra]) D = some (.lst vs) := zT _ _ (F2.fr _ (Ne.symm nD) _ hD4)
        have s6 := F2.sack.same zT
        refine ⟨T', _, rfl, SqT.of upd_same, rfl, _, _, rfl, _, _, rfl, rfl, ?_⟩
        have nlr : (IL (r.map fun n : Nat => (n : Int))).length = n := by unfold IL; rw [List.length_map, List.length_map, rlen, ml]
        have hraI : upd H6 T' (.tup [V.int (i : Nat), V.ref ra]) ra = some (.lst (IL (r.map fun n : Nat => (n : Int)))) := by rw [nl_il]; exact hra6
        obtain ⟨r0, hr0⟩ : ∃ r0 : Int, (r.map fun n : Nat => (n : Int))[0]? = some r0 := ⟨_, List.getElem?_eq_getElem (by rw [List.length_map]; omega)⟩
        have hr0' : (IL (r.map fun n : Nat => (n : Int)))[0]? = some (V.int r0) := by
          unfold IL
          rw [List.getElem?_map, hr0]
          rfl
        refine ⟨_, rfl, ra, r.map fun n : Nat => (n : Int), rfl, SqL.of hraI, ?_⟩
        refine ⟨_, rfl, ra, _, _, _, rfl, rfl, SqL.of hraI, atI_nat (j := 0) hr0', ?_⟩
        refine ⟨_, rfl, _, rfl, D, _, rfl, .inl (SqL.of hS6), ?_⟩
        rw [vl]
        refine ⟨sk, _, (rss.length : Nat), rfl, s6, by omega, by omega, by omega, fun H7 y y0 y1 q7 s7 => ?_⟩
        have f7 := Fr.of_eq q7
        have hS7 := f7 _ (Ne.symm nD) _ hS6
        refine ⟨(by show 3 ≤ sizeLine; decide), fun l0 hl0 => ?_⟩
        have nl0 := s7.ne hl0
        obtain ⟨S0, hS0⟩ : ∃ S0, S0 = (r.map fun n : Nat => (n : Int)).sum := ⟨_, rfl⟩
        rw [← hS0]
        have zl0 := same_new (o := .lst [V.int S0, V.int r0, V.int y]) hl0
        obtain ⟨sp, hsp⟩ : ∃ sp : Int, atI [V.int S0, V.int r0, V.int y] kd = some (V.int sp) := by
          rcases (show kd = 0 ∨ kd = 1 ∨ kd = 2 by omega) with rfl | rfl | rfl
          · exact ⟨S0, rfl⟩
          · exact ⟨r0, rfl⟩
          · exact ⟨y, rfl⟩
        refine ⟨_, rfl, l0, _, _, _, rfl, rfl, SqL.of upd_same, hsp, ?_⟩
        have F2at : upd H7 l0 (.lst [V.int S0, V.int r0, V.int y]) Pi = some (.lst vs2) := zl0 _ _ (f7 _ (Ne.symm nPi) _ (zT _ _ F2.at_))
        have hS8 := zl0 _ _ hS7
        refine ⟨_, rfl, .inl ⟨rfl, _, SqL.of F2at⟩, _, rfl, _, rfl, .inl ⟨_, rfl, ?_⟩⟩
        refine ⟨_, rfl, D, _, rfl, .inl (SqL.of hS8), ?_⟩
        rw [vl]
        refine ⟨_, _, rfl, rfl, by omega, ?_⟩
        have w0 : 0 ≤ sp.fmod (rss.length : Nat) := Int.fmod_nonneg_of_pos _ (by omega)
        have w1 : sp.fmod (rss.length : Nat) < (rss.length : Nat) := Int.fmod_lt_of_pos _ (by omega)
        obtain ⟨ix, hix⟩ : ∃ ix : Nat, sp.fmod (rss.length : Nat) = (ix : Int) := ⟨(sp.fmod (rss.length : Nat)).toNat, (Int.toNat_of_nonneg w0).symm⟩
        rw [hix] at w1
        have ixl : ix < rss.length := by omega
        have evx : vs[ix]? = some (vs[ix]'(by omega)) := List.getElem?_eq_getElem (by omega)
        obtain ⟨d, b3, he1, he2, he3⟩ := own4.at evx
        rw [List.getElem?_map, List.getElem?_eq_getElem ixl] at he1
        obtain rfl := Option.some.inj he1
        have b3s : sk ∉ b3 := fun z => po (he3 sk z)
        have own8 := (((he2.fr b3s F2.fr).same zT).fr b3s f7).same zl0
        obtain ⟨rs, hrs⟩ : ∃ rs, rs = rss[ix]'ixl := ⟨_, rfl⟩
        rw [← hrs] at own8
        have rsm : rs ∈ rss := by rw [hrs]; exact List.getElem_mem _
        have wr := wd rs rsm
        have pok : PieceOk rs := ⟨by have := wr.2; omega, fun l hl => ⟨fun z => by have := wr.1 l hl; rw [z] at this; simp at this; omega, by have := wr.1 l hl; omega⟩⟩
        refine ⟨D, vs, _, _, rfl, rfl, SqL.of hS8, by rw [hix]; exact atI_nat evx, ?_⟩
        refine ⟨pieceD rs, _, b3, rfl, own8, piece_depth rs, piece_nodes pok, fun H9 v' bs sm9 ow nw ndp => ?_⟩
        have s9 := (s7.put (o := .lst [V.int S0, V.int r0, V.int y]) nl0).same sm9
        have f9 : Fr sk H6 H9 := (Fr.of_same zT).trans ((f7.trans (Fr.of_same zl0)).trans (Fr.of_same sm9))
        obtain ⟨m1, m2⟩ := F2.more hPi nPi f9 s9 ow (fun b hb => zT.free (f7.back s7 (zl0.free (nw b hb)))) ndp
        have v2l := F2.own.len
        rw [List.length_map, pl2] at v2l
        refine ⟨Pi, vs2, _, rfl, rfl, m1, Nat.lt_of_lt_of_le (show _ < 10000000 by omega) szz, ?_⟩
        refine ⟨ps ++ [rs], vs2 ++ [v'], cs2 ++ bs, _, _, _, rfl, ?_, fun b hb hb2 o e => ?_, by rw [List.length_append, pl2]; rfl, fun x hx => ?_⟩
        · rw [List.map_append]
          exact m2
        · rw [upd_ne hb2]
          exact f9 b hb o (f6 b hb hb2 o e)
        · rcases List.mem_append.mp hx with z | z
          · exact pin x z
          · rw [List.mem_singleton.mp z]; exact rsm
      · rintro σ H6 ⟨ps, vs2, cs2, x9, x10, x11, rfl, F2, f6, pl2, pin⟩
        have pl3 : ps.length = FM.vol ms := by rw [pl2, rxl]
        have hMo6 := F2.fr _ (Ne.symm nM) _ hMo4
        refine ⟨_, rfl, _, rfl, (by show 2 ≤ sizeLine; decide), fun t ht => ?_⟩
        have zt := same_new (o := .tup [V.ref Mo, V.ref Pi]) ht
        have fH := f1.trans (f4.trans F2.fr)
        have own := form_own (ms := ms) (ps := ps) upd_same (zt _ _ hMo6) (zt _ _ F2.at_) (F2.own.same zt)
        have wp : ∀ rs ∈ ps, WidC n c rs := fun rs hrs => wd rs (pin rs hrs)
        have tp : Small ps := fun rs hrs => ty rs (pin rs hrs)
        have bH : ∀ b, H4 b = none → H1 b = none := fun b e => f4.back s4 e
        have bH0 : ∀ b, H1 b = none → H b = none := fun b e => f1.back s1 e
        refine q _ (.ref t) _ ms ps (fH.trans (Fr.of_same zt)) ((F2.sack.le (by omega)).same zt) own (fun b hb => ?_) ?_ ⟨n0, n4, c0, c4, ml, posm, pl3, by omega, wp, fun rs hrs r hr x hx => Nat.le_trans ((tp rs hrs r hr).1 x hx) (by decide), fun rs hrs r hr => Nat.le_trans ((tp rs hrs r hr).2) (by decide)⟩ vm tp
        · rcases List.mem_cons.mp hb with e | e
          · rw [e]
            exact fH.back F2.sack ht
          · rcases List.mem_append.mp e with e | e
            · rw [List.mem_singleton.mp e]
              exact nwM
            · rw [List.append_nil] at e
              rcases List.mem_cons.mp e with e | e
              · rw [e]
                exact bH0 _ (bH Pi hPi)
              · exact bH0 _ (bH b (F2.new b e))
        · have f1' : t ≠ Mo := ne_of_none' hMo6 ht
          have f2' : t ≠ Pi := ne_of_none' F2.at_ ht
          have f3' : t ∉ cs2 := F2.own.not ht
          have f4' : Mo ≠ Pi := fun z => by
            rw [z, hPi] at hMo4
            cases hMo4
          have f5' : Mo ∉ cs2 := fun z => by
            have := F2.new Mo z
            rw [hMo4] at this
            cases this
          simp only [List.append_nil, List.singleton_append, List.nodup_cons, List.mem_cons, not_or]
          exact ⟨⟨f1', f2', f3'⟩, ⟨f4', f5'⟩, F2.out, F2.nd⟩
end
end K09

set_option Elab.async false
set_option linter.all false
set_option maxRecDepth 100000
set_option maxHeartbeats 4000000
set_option exponentiation.threshold 5000
namespace K09
open PySem L2 DL PySem.HouseX CM
theorem vol_set {ns : List Nat} {r : Nat} (h : r < ns.length) (x : Nat) : FM.vol (ns.set r (ns.getD r 0 * x)) = FM.vol ns * x := by
  have e := list_mid h 0
  have l : (ns.take r).length = r := by rw [List.length_take]; omega
  obtain ⟨y, hy⟩ : ∃ y, y = ns.getD r 0 := ⟨_, rfl⟩
  rw [← hy] at e ⊢
  have e2 : ns.set r (y * x) = ns.take r ++ (y * x) :: ns.drop (r + 1) := by
    conv => lhs; rw [e, set_mid l]
  rw [e2]
  conv => rhs; rw [e]
  rw [FM.vol_app, FM.vol_app]
  simp only [FM.vol]
  rw [Nat.mul_assoc, Nat.mul_assoc, Nat.mul_comm x, ← Nat.mul_assoc y]
def spWidened : Sp := fun vs H Q _ => ∃ (sk : Addr) (v : V) (as : List Addr) (k n c most : Nat) (ms : List Nat) (ps : List (List Line)), vs = [.ref sk, v, .int most] ∧ SackAt H sk k ∧ k ≤ 800000000 ∧ Own H (formD ms ps) v as ∧ sk ∉ as ∧ FK n c ms ps ∧ most ≤ 600 ∧
  ∀ H' u bs ns, Fr sk H H' → SackAt H' sk (k + 10) → Own H' (formD ns (FM.tab ns (formF ms ps))) u bs → New H bs → bs.Nodup → ns.length = n → (∀ m ∈ ns, 0 < m) → FM.vol ns ≤ 600 → (∀ i m x : Nat, ms[i]? = some m → ns[i]? = some x → m ∣ x) → Q u H'
structure TxtQ3 (mg : Str → Option Value) (fP fM fT fC : Addr) : Prop where
  list : mg "list" = none
  len : mg "len" = none
  range : mg "range" = none
  gP : mg "_law_hd_pick" = some (.ref fP)
  gM : mg "_law_hd_moved" = some (.ref fM)
  gT : mg "_law_hd_told_with" = some (.ref fT)
  gC : mg "_law_hd_copy" = some (.ref fC)
section
variable {P : Program} {w : World} {K : PySem.W.Frag} {mg : Str → Option Value} {base : Heap}
theorem scWidened : FnScope ["_law_sack", "_law_form", "_law_most", "_law_moduli", "_law_whole", "_law_modulus_here", "_law_turn", "_law_rank", "_law_more"] ["_law_sack", "_law_form", "_law_most"] (defScope sLWidened) := ⟨rfl, rfl, rfl, by decide +kernel, rfl, by decide +kernel, by decide +kernel⟩
theorem ok_widened {f fP fM fT fC : Addr} {fd fdP fdM fdT : FuncData} (F : Fun K "_law_hd_widened" "_law_hd_widened" sLWidened f fd) (T : TxtQ3 mg fP fM fT fC)
    (GP : FnOk P w K mg base CX0 1 fP fdP ["_law_sack", "_law_many"] spPick) (kP : PySem.W.keepIn K (.ref fP) = true) (bP : Binds K fdP ["_law_sack", "_law_many"] [])
    (GM : FnOk P w K mg base CX0 1 fM fdM ["_law_state_here", "_law_rank", "_law_amount"] (spMoved K)) (kM : PySem.W.keepIn K (.ref fM) = true) (bM : Binds K fdM ["_law_state_here", "_law_rank", "_law_amount"] [])
    (GT : FnOk P w K mg base CX0 5 fT fdT ["_law_form", "_law_moduli"] (spToldW K)) (kT : PySem.W.keepIn K (.ref fT) = true) (bT : Binds K fdT ["_law_form", "_law_moduli"] []) : FnOk P w K mg base CX0 6 f fd ["_law_sack", "_law_form", "_law_most"] spWidened := by
  have nd := scWidened.nd
  refine F.ok scWidened (fun vs H Q E h => ?_) (fun cdv A outer s H vs Q E hr h => ?_)
  · obtain ⟨_, _, _, _, _, _, _, _, _, rfl, _⟩ := h
    rfl
  · obtain ⟨sk, v, as, k, n, c, most, ms, ps, rfl, hsk, kb, hv, out, O, t6, q⟩ := h
    have hr1 : Room 1 _ := hr.mono (by decide)
    refine ⟨_, pss_cons (ps_par (i := 3) (j := 4) (by rfl) nd rfl rfl (by decide) rfl rfl (pa_cons (pe_callTy call_list_of (by rfl) T.list (by decide +kernel) (pa_cons (pe_ix ix_tup (pv 1) pe_int (fun _ _ => rfl)) pa_nil)) (pa_cons pe_int pa_nil)) (by rfl))
      (pss_cons (ps_for PassesOwn.never rfl (pi_list (pv 3)) (pg_name (i := 5) nd rfl (Or.inl rfl)) (pss_one (ps_set (i := 4) nd rfl (Or.inl rfl) (pe_op op_mul (pv 4) (pv 5)))))
      (pss_cons (ps_for PassesOwn.never rfl (pi_range1 (by rfl) T.range (pa_cons (pe_call GP hr1 rfl T.gP kP bP .nil pass0 (pa_cons (pv 0) (pa_cons pe_int pa_nil))) pa_nil)) (pg_name (i := 6) nd rfl (Or.inl rfl))
        (pss_cons (ps_par (i := 7) (j := 8) (by rfl) nd rfl rfl (by decide) rfl rfl (pa_cons (pe_call GP hr1 rfl T.gP kP bP .nil pass0 (pa_cons (pv 0) (pa_cons (pe_callB call_len_seq (by rfl) T.len PySem.boot_len (pa_cons (pv 3) pa_nil)) pa_nil))) (pa_cons (pe_op op_add pe_int (pe_call GP hr1 rfl T.gP kP bP .nil pass0 (pa_cons (pv 0) (pa_cons pe_int pa_nil)))) pa_nil)) (by rfl))
        (pss_one (ps_if (pt_cmpR op_le (pe_op op_mul (pv 4) (pv 8)) (pv 2) (nomark _))
          (pss_one (ps_par (i := 4) (j := 3) (by rfl) nd rfl rfl (by decide) rfl rfl (pa_cons (pe_op op_mul (pv 4) (pv 8)) (pa_cons (pe_call GM hr1 rfl T.gM kM bM .nil pass0 (pa_cons (pv 3) (pa_cons (pv 7) (pa_cons (pe_op op_mul (pe_ix ix_list (pv 3) (pv 7) (fun _ _ => rfl)) (pv 8)) pa_nil)))) pa_nil)) (by rfl))) pss_nil))))
      (pss_one (ps_ret (pe_call GT hr rfl T.gT kT bT .nil pass0 (pa_cons (pv 1) (pa_cons (pv 3) pa_nil))))))), ?_⟩
    have n4 := O.n4
    have n0 := O.n0
    have vv := O.vol
    have ml := O.len
    obtain ⟨t, a, b, xs, cs, rfl, ht, ha, hb, ho, _⟩ := own_form hv
    refine ⟨_, rfl, t, _, _, .ref a, rfl, rfl, SqT.of ht, rfl, a, _, rfl, .inl (SqL.of ha), fun l0 hl0 => ⟨_, _, rfl, ?_⟩⟩
    have zl := same_new (o := .lst (NL ms)) hl0
    have nl0 := hsk.ne hl0
    have s0 := hsk.same zl
    have el0 : upd H l0 (.lst (NL ms)) l0 = some (.lst (NL ms)) := upd_same
    generalize upd H l0 (.lst (NL ms)) = H0 at *
    refine ⟨_, rfl, l0, rfl, ⟨_, SqL.of el0⟩, ?_⟩
    have nlm : (NL ms).length = ms.length := List.length_map ..
    refine for_list (K := K) (a := l0) (xs := NL ms) (fun i σ H' => Same H0 H' ∧ ∃ x5 : Option V, σ = [some (.ref sk), some (.ref t), some (.int (most : Nat)), some (.ref l0), some (.int (FM.vol (ms.take i) : Nat)), x5, none, none, none]) ⟨Same.refl _, _, rfl⟩ (fun i σ H' _ ⟨k, _⟩ => SqL.of (k _ _ el0)) ?_ ?_
    · rintro i x σ H1 hx ⟨sm, x5, rfl⟩
      have il := (List.getElem?_eq_some_iff.mp hx).1
      rw [nlm] at il
      obtain rfl := map_at (d := 0) hx
      have v1 := vol_take O.pos i
      have v2 := vol_take O.pos (i + 1)
      rw [vol_snoc il] at v2
      have mx : ms.getD i 0 ≤ 600 := by
        have p0 := FM.vol_pos (ms := ms.take i) fun z hz => O.pos z (List.mem_of_mem_take hz)
        exact Nat.le_trans (Nat.le_trans (Nat.le_mul_of_pos_left _ p0) v2) vv
      refine ⟨_, rfl, _, rfl, _, _, rfl, rfl, .inl ⟨by omega, by omega⟩, ?_⟩
      refine ⟨sm, some (.int (ms.getD i 0 : Nat)), ?_⟩
      rw [vol_snoc il, Int.natCast_mul]
      rfl
    · rintro σ H1 ⟨sm1, x5, rfl⟩
      rw [nlm, List.take_length]
      have s1 := s0.same sm1
      have el1 := sm1 _ _ el0
      refine ⟨_, rfl, sk, k, 3, rfl, s1, by omega, by decide, by decide, fun H2 z z0 z1 q2 s2 => ?_⟩
      refine ⟨z, rfl, by omega, by omega, ?_⟩
      have f2 : Fr sk H H2 := (Fr.of_same (zl.trans sm1)).trans (Fr.of_eq q2)
      have el2 := (q2 l0 (Ne.symm nl0)).trans el1
      refine for_it (walk_range (lo := 0) (n := z.toNat)) (fun j σ H' => ∃ (ns : List Nat) (l : Addr) (x6 x7 x8 : Option V), σ = [some (.ref sk), some (.ref t), some (.int (most : Nat)), some (.ref l), some (.int (FM.vol ns : Nat)), x5, x6, x7, x8] ∧ Fr sk H H' ∧ SackAt H' sk (k + 1 + 2 * j) ∧ l ≠ sk ∧ H' l = some (.lst (NL ns)) ∧ ns.length = n ∧ (∀ m ∈ ns, 0 < m) ∧ FM.vol ns ≤ 600 ∧ (∀ i m x : Nat, ms[i]? = some m → ns[i]? = some x → m ∣ x))
        ⟨ms, l0, _, _, _, rfl, f2, s2, Ne.symm nl0, el2, ml, O.pos, vv, fun i m x h1 h2 => by rw [h1] at h2; rw [Option.some.inj h2]; exact Nat.dvd_refl _⟩ (fun _ _ _ _ _ => trivial) ?_ ?_
      · rintro j x σ H3 H3' hj ⟨ns, l, x6, x7, x8, rfl, f3, s3, nl, hl, nsl, nsp, nsv, nsd⟩ ⟨rfl, rfl⟩
        have nll : (NL ns).length = n := by unfold NL; rw [List.length_map, nsl]
        refine ⟨_, rfl, _, rfl, l, _, rfl, .inl (SqL.of hl), ?_⟩
        rw [nll]
        refine ⟨sk, _, (n : Nat), rfl, s3, by omega, by omega, by omega, fun H4 r r0 r1 q4 s4 => ?_⟩
        obtain ⟨r', rfl⟩ : ∃ r' : Nat, r = (r' : Int) := ⟨r.toNat, (Int.toNat_of_nonneg r0).symm⟩
        refine ⟨_, rfl, sk, _, 2, rfl, s4, by omega, by decide, by decide, fun H5 y y0 y1 q5 s5 => ⟨_, _, rfl, rfl, _, _, rfl, ?_⟩⟩
        obtain ⟨x', hx', x1⟩ : ∃ x' : Nat, 2 + y = (x' : Int) ∧ 0 < x' ∧ x' ≤ 3 := ⟨2 + y.toNat, by omega, by omega, by omega⟩
        dsimp only
        rw [hx']
        have f5 : Fr sk H3' H5 := (Fr.of_eq q4).trans (Fr.of_eq q5)
        have hl5 := f5 _ nl _ hl
        have rl : r' < ns.length := by omega
        have fin : ∀ (ns' : List Nat) (l' : Addr) (H' : Hp), Fr sk H H' → SackAt H' sk (k + 1 + 2 * (j + 1)) → True := fun _ _ _ _ _ => trivial
        have cnt : k + 1 + 2 * (j + 1) = k + 1 + 2 * j + 1 + 1 := by omega
        refine ⟨_, rfl, _, rfl, _, _, rfl, rfl, .inl ⟨by omega, by omega⟩, _, rfl, _, _, rfl, rfl, _, rfl, ite2 (fun h => ?_) (fun h => ?_)⟩
        · have hle := of_decide_eq_true h
          have hnr : (NL ns)[r']? = some (V.int (ns.getD r' 0 : Nat)) := by
            unfold NL
            rw [List.getElem?_map, List.getElem?_eq_getElem rl, List.getD_eq_getElem?_getD, List.getElem?_eq_getElem rl]
            rfl
          have nrv : ns.getD r' 0 ≤ 600 := by
            have e := vol_set rl 1
            have v2 := vol_take nsp (r' + 1)
            rw [vol_snoc rl] at v2
            have p0 := FM.vol_pos (ms := ns.take r') fun z hz => nsp z (List.mem_of_mem_take hz)
            exact Nat.le_trans (Nat.le_trans (Nat.le_mul_of_pos_left _ p0) v2) nsv
          refine ⟨_, rfl, _, rfl, _, _, rfl, rfl, .inl ⟨by omega, by omega⟩, ?_⟩
          refine ⟨_, rfl, _, rfl, _, rfl, _, rfl, l, _, _, _, rfl, rfl, SqL.of hl5, atI_nat hnr, _, rfl, _, _, rfl, rfl, .inl ⟨by omega, by omega⟩, ?_⟩
          refine ⟨l, ns.map fun m : Nat => (m : Int), r', ((ns.getD r' 0 * x' : Nat) : Int), by rw [Int.natCast_mul]; rfl, SqL.of (by rw [nl_il]; exact hl5), by rw [List.length_map]; omega, fun H6 p sm6 np hp => ⟨_, _, rfl, ?_⟩⟩
          have hp' : H6 p = some (.lst (NL (ns.set r' (ns.getD r' 0 * x')))) := by
            rw [hp, ← nl_il, List.map_set]
          refine ⟨ns.set r' (ns.getD r' 0 * x'), p, some (.int (0 + ((j : Nat) : Int))), some (.int (r' : Nat)), some (.int (x' : Nat)), ?_, (f3.trans f5).trans (Fr.of_same sm6), by rw [cnt]; exact s5.same sm6, Ne.symm (s5.ne np), hp', by rw [List.length_set, nsl], ?_, ?_, ?_⟩
          · rw [vol_set rl, Int.natCast_mul]
            rfl
          · intro m hm
            rcases List.mem_or_eq_of_mem_set hm with z | z
            · exact nsp m z
            · rw [z]
              have g0 : 0 < ns.getD r' 0 := by
                rw [List.getD_eq_getElem?_getD, List.getElem?_eq_getElem rl]
                exact nsp _ (List.getElem_mem _)
              exact Nat.mul_pos g0 x1.1
          · rw [vol_set rl]
            have : ((FM.vol ns * x' : Nat) : Int) ≤ (most : Nat) := by rw [Int.natCast_mul]; exact hle
            omega
          · intro i m x h1 h2
            by_cases e : r' = i
            · subst e
              rw [List.getElem?_set_self rl] at h2
              rw [← Option.some.inj h2]
              refine Nat.dvd_trans (nsd r' m (ns.getD r' 0) h1 ?_) (Nat.dvd_mul_right _ _)
              rw [List.getD_eq_getElem?_getD, List.getElem?_eq_getElem rl]
              rfl
            · rw [List.getElem?_set_ne e] at h2
              exact nsd i m x h1 h2
        · exact ⟨ns, l, some (.int (0 + ((j : Nat) : Int))), some (.int (r' : Nat)), some (.int (x' : Nat)), rfl, f3.trans f5, by rw [cnt]; exact s5, nl, hl5, nsl, nsp, nsv, nsd⟩
      · rintro σ H3 ⟨ns, l, x6, x7, x8, rfl, f3, s3, nl, hl, nsl, nsp, nsv, nsd⟩
        have zz : z.toNat ≤ 2 := by omega
        refine ⟨_, rfl, _, rfl, .ref t, l, as, ms, ns, ps, rfl, hv.fr out f3, SqL.of hl, O.pos, nsp, by omega, by omega, O.pl, by omega, by omega, O.piece, fun H4 u bs sm4 ow nw ndb => ?_⟩
        exact q H4 u bs ns (f3.trans (Fr.of_same sm4)) ((s3.same sm4).le (by omega)) ow (f3.backs s3 nw) ndb nsl nsp nsv nsd
end
end K09

set_option Elab.async false
set_option linter.all false
set_option maxRecDepth 100000
set_option maxHeartbeats 4000000
set_option exponentiation.threshold 5000
namespace K09
open PySem L2 DL PySem.HouseX CM
theorem fk_nodes {n c : Nat} {ms : List Nat} {ps : List (List Line)} (O : FK n c ms ps) : nodes (formD ms ps) ≤ 24000 := by
  have n4 := O.n4
  have c4 := O.c4
  have vv := O.vol
  have pn : ∀ rs ∈ ps, nodes (pieceD rs) ≤ 35 := fun rs hrs => by
    obtain ⟨w1, w2⟩ := O.wid rs hrs
    have a := nodesAll_le (ds := rs.map fun r => PyData.list (r.is.map PyData.int)) (n := 5) fun d hd => by
      obtain ⟨r, hr, rfl⟩ := List.mem_map.mp hd
      have := ints_nodes2 r.is
      have := w1 r hr
      simp only [nodes]
      omega
    rw [List.length_map] at a
    have b := ints_nodes2 (rs.map (·.am))
    rw [List.length_map] at b
    simp only [pieceD, matD, nodes, nodesAll]
    omega
  have a := nodesAll_le (ds := ps.map pieceD) (n := 35) fun d hd => by
    obtain ⟨rs, hrs, rfl⟩ := List.mem_map.mp hd
    exact pn rs hrs
  rw [List.length_map, O.pl] at a
  have b := ints_nodes2 (ms.map fun m : Nat => (m : Int))
  rw [List.length_map, O.len] at b
  simp only [formD, nodes, nodesAll]
  omega
def spChanged : Sp := fun vs H Q _ => ∃ (sk : Addr) (v : V) (as : List Addr) (k n c : Nat) (ms : List Nat) (ps : List (List Line)), vs = [.ref sk, v] ∧ SackAt H sk k ∧ k ≤ 800000000 ∧ Own H (formD ms ps) v as ∧ FK n c ms ps ∧ Small ps ∧
  ∀ H' u bs qs, Fr sk H H' → SackAt H' sk (k + 10) → Own H' (formD ms qs) u bs → New H bs → bs.Nodup → FK n c ms qs → Q u H'
/-- an edited form is a right form -/
theorem FK.edit {n c : Nat} {ms : List Nat} {ps : List (List Line)} (O : FK n c ms ps) {i j : Nat} {rs : List Line} {is' ams' : List Int} (rsm : rs ∈ ps) (il : is'.length = n) (al : ams'.length = rs.length) (ib : ∀ x ∈ is', x.natAbs ≤ 100) (ab : ∀ x ∈ ams', x.natAbs ≤ 100) : FK n c ms (ps.set i (edited rs j is' ams')) := by
  have mem : ∀ x ∈ ps.set i (edited rs j is' ams'), x ∈ ps ∨ x = edited rs j is' ams' := fun x hx => List.mem_or_eq_of_mem_set hx
  refine ⟨O.n0, O.n4, O.c0, O.c4, O.len, O.pos, by rw [List.length_set, O.pl], O.vol, fun x hx => ?_, fun x hx l hl y hy => ?_, fun x hx l hl => ?_⟩
  · rcases mem x hx with w | w
    · exact O.wid x w
    · rw [w]; exact edited_wid (O.wid rs rsm) il al
  · rcases mem x hx with w | w
    · exact O.sml x w l hl y hy
    · rw [w] at hl
      rcases (edited_is al hl).1 with e | ⟨s, hs, e⟩
      · rw [e] at hy; exact ib y hy
      · rw [e] at hy; exact O.sml rs rsm s hs y hy
  · rcases mem x hx with w | w
    · exact O.ams x w l hl
    · rw [w] at hl
      exact ab _ (edited_is al hl).2
theorem own_form_in {H : Hp} {v : V} {as : List Addr} {ms : List Nat} {ps : List (List Line)} (h : Own H (formD ms ps) v as) : ∃ t a b xs cs, v = .ref t ∧ H t = some (.tup [.ref a, .ref b]) ∧ H a = some (.lst (NL ms)) ∧ H b = some (.lst xs) ∧ OwnAll H (ps.map pieceD) xs cs ∧ as = t :: ([a] ++ ((b :: cs) ++ [])) := by
  obtain ⟨t, us, bs, rfl, ht, ⟨v1, us1, b1, c1, rfl, ⟨a, ys, d1, rfl, ha, oa, rfl⟩, ⟨v2, us2, b2, c2, rfl, ⟨b, xs, cs, rfl, hb, ob, rfl⟩, ⟨rfl, rfl⟩, rfl⟩, rfl⟩, rfl⟩ := h
  obtain ⟨rfl, rfl⟩ := ints_own oa
  exact ⟨t, a, b, xs, cs, rfl, ht, by rw [← nl_il]; exact ha, hb, ob, rfl⟩
section
variable {P : Program} {w : World} {K : PySem.W.Frag} {mg : Str → Option Value} {base : Heap}
theorem scChanged : FnScope ["_law_sack", "_law_form", "_law_found", "_law_matrix", "_law_more", "_law_result", "_law_rank", "_law_line"] ["_law_sack", "_law_form"] (defScope sLChanged) := ⟨rfl, rfl, rfl, by decide +kernel, rfl, by decide +kernel, by decide +kernel⟩
theorem ok_changed {f fP fM fT fC : Addr} {fd fdP fdC : FuncData} (F : Fun K "_law_hd_changed_form" "_law_hd_changed_form" sLChanged f fd) (T : TxtQ3 mg fP fM fT fC)
    (GP : FnOk P w K mg base CX0 1 fP fdP ["_law_sack", "_law_many"] spPick) (kP : PySem.W.keepIn K (.ref fP) = true) (bP : Binds K fdP ["_law_sack", "_law_many"] [])
    (GC : FnOk P w K mg base CX0 6 fC fdC ["_law_thing"] (spCopy 5)) (kC : PySem.W.keepIn K (.ref fC) = true) (bC : Binds K fdC ["_law_thing"] []) : FnOk P w K mg base CX0 7 f fd ["_law_sack", "_law_form"] spChanged := by
  have nd := scChanged.nd
  refine F.ok scChanged (fun vs H Q E h => ?_) (fun cdv A outer s H vs Q E hr h => ?_)
  · obtain ⟨_, _, _, _, _, _, _, _, rfl, _⟩ := h
    rfl
  · obtain ⟨sk, v, as, k, n, c, ms, ps, rfl, hsk, kb, hv, O, ty, q⟩ := h
    have hr1 : Room 1 _ := hr.mono (by decide)
    refine ⟨_, pss_cons (ps_set (i := 2) nd rfl (Or.inl rfl) (pe_call GC hr rfl T.gC kC bC .nil pass0 (pa_cons (pv 1) pa_nil)))
      (pss_cons (ps_if (pt_cmpR op_eq (pe_call GP hr1 rfl T.gP kP bP .nil pass0 (pa_cons (pv 0) (pa_cons pe_int pa_nil))) pe_int (nomark _)) (pss_one (ps_ret (pv 2))) pss_nil)
      (pss_cons (ps_asg (pe_ix ix_list (pe_ix ix_tup (pv 2) pe_int (fun _ _ => rfl)) (pe_call GP hr1 rfl T.gP kP bP .nil pass0 (pa_cons (pv 0) (pa_cons (pe_callB call_len_seq (by rfl) T.len PySem.boot_len (pa_cons (pe_ix ix_tup (pv 2) pe_int (fun _ _ => rfl)) pa_nil)) pa_nil))) (fun _ _ => rfl)) (pg_tup rfl (pgs_cons (pg_name (i := 3) nd rfl (Or.inl rfl)) (pgs_cons (pg_name (i := 4) nd rfl (Or.inl rfl)) pgs_nil))))
      (pss_cons (ps_par (i := 5) (j := 6) (by rfl) nd rfl rfl (by decide) rfl rfl (pa_cons (pe_call GP hr1 rfl T.gP kP bP .nil pass0 (pa_cons (pv 0) (pa_cons (pe_callB call_len_seq (by rfl) T.len PySem.boot_len (pa_cons (pv 4) pa_nil)) pa_nil)))
        (pa_cons (pe_call GP hr1 rfl T.gP kP bP .nil pass0 (pa_cons (pv 0) (pa_cons (pe_op op_add (pe_callB call_len_seq (by rfl) T.len PySem.boot_len (pa_cons (pe_ix ix_tup (pv 2) pe_int (fun _ _ => rfl)) pa_nil)) pe_int) pa_nil))) pa_nil)) (by rfl))
      (pss_cons (ps_if (pt_cmpR op_eq (pv 6) (pe_callB call_len_seq (by rfl) T.len PySem.boot_len (pa_cons (pe_ix ix_tup (pv 2) pe_int (fun _ _ => rfl)) pa_nil)) (nomark _))
        (pss_one (ps_asg (pe_op op_add (pe_ix ix_list (pv 4) (pv 5) (fun _ _ => rfl)) pe_int) (pg_sub (pv 4) (pv 5) set_list)))
        (pss_cons (ps_set (i := 7) nd rfl (Or.inl rfl) (pe_ix ix_list (pv 3) (pv 5) (fun _ _ => rfl))) (pss_one (ps_asg (pe_op op_sub (pe_ix ix_list (pv 7) (pv 6) (fun _ _ => rfl)) pe_int) (pg_sub (pv 7) (pv 6) set_list)))))
      (pss_one (ps_ret (pv 2))))))), ?_⟩
    have n4 := O.n4
    have n0 := O.n0
    have c4 := O.c4
    have c0 := O.c0
    have vv := O.vol
    have ml := O.len
    refine ⟨_, rfl, formD ms ps, v, as, rfl, hv, form_depth _ _, Nat.le_trans (fk_nodes O) (by decide), fun H1 u bs sm1 ow1 nw1 nd1 => ?_⟩
    have s1 := hsk.same sm1
    have out : sk ∉ bs := hsk.out nw1
    refine ⟨_, rfl, sk, _, 2, rfl, s1, by omega, by decide, by decide, fun H2 y0 y00 y01 q2 s2 => ⟨rfl, _, rfl, ite2 (fun h => ?_) (fun h => ?_)⟩⟩
    · have f2 : Fr sk H H2 := (Fr.of_same sm1).trans (Fr.of_eq q2)
      exact ⟨_, rfl, q H2 u bs ps f2 (s2.le (by omega)) (ow1.fr out (Fr.of_eq q2)) nw1 nd1 O⟩
    have g2 : Fr sk H1 H2 := Fr.of_eq q2
    have ow2 := ow1.fr out g2
    have plen : 0 < ps.length := by rw [O.pl]; exact FM.vol_pos O.pos
    have ple : ps.length ≤ 600 := by rw [O.pl]; exact vv
    obtain ⟨t, a, b, xs, cs, rfl, ht, ha, hb, ho, ebs⟩ := own_form_in ow2
    have nat : t ≠ sk := fun e => out (by rw [ebs, e]; simp)
    have naa : a ≠ sk := fun e => out (by rw [ebs, e]; simp)
    have nab : b ≠ sk := fun e => out (by rw [ebs, e]; simp)
    have xl : xs.length = ps.length := by have := ho.len; rwa [List.length_map] at this
    refine ⟨_, rfl, t, _, _, .ref b, rfl, rfl, SqT.of ht, rfl, _, rfl, _, rfl, t, _, _, .ref b, rfl, rfl, SqT.of ht, rfl, b, _, rfl, .inl (SqL.of hb), ?_⟩
    rw [xl]
    refine ⟨sk, _, (ps.length : Nat), rfl, s2, by omega, by omega, by omega, fun H4 z z0 z1 q4 s4 => ?_⟩
    obtain ⟨z', rfl⟩ : ∃ z' : Nat, z = (z' : Int) := ⟨z.toNat, (Int.toNat_of_nonneg z0).symm⟩
    have zl : z' < ps.length := by omega
    obtain ⟨rs, hrs⟩ : ∃ rs, ps[z']? = some rs := ⟨_, List.getElem?_eq_getElem zl⟩
    have rsm := List.mem_of_getElem? hrs
    obtain ⟨wr, wc⟩ := O.wid rs rsm
    have f4 := Fr.of_eq q4
    have ow4 := ow2.fr out f4
    obtain ⟨r0, hr0⟩ : ∃ r0, rs[0]? = some r0 := ⟨_, List.getElem?_eq_getElem (by omega)⟩
    obtain ⟨t4, b4, tp, mm, nn, la0, xs4, ls4, e4, A4⟩ := edit_at ow4 nd1 hrs hr0
    obtain rfl := V.ref.inj e4
    have eb : b = b4 := by
      obtain ⟨a4, h4⟩ := A4.ht
      have h4' := f4 _ nat _ ht
      rw [h4] at h4'
      have := HO.tup.inj (Option.some.inj h4')
      simp only [List.cons.injEq, V.ref.injEq, and_true] at this
      exact this.2.symm
    subst eb
    have ex4 : xs = xs4 := by
      have h4' := f4 _ nab _ hb
      rw [A4.hb] at h4'
      exact (HO.lst.inj (Option.some.inj h4')).symm
    subst ex4
    refine ⟨b, _, _, .ref tp, rfl, rfl, SqL.of A4.hb, atI_nat A4.hx, ?_⟩
    refine ⟨tp, _, rfl, SqT.of A4.htp, rfl, _, _, rfl, _, _, rfl, rfl, ?_⟩
    have nnn : nn ≠ sk := fun e => out (e ▸ A4.m2)
    have nra : (IL (rs.map (·.am))).length = c := by unfold IL; rw [List.length_map, List.length_map, wc]
    refine ⟨_, rfl, _, rfl, nn, _, rfl, .inl (SqL.of A4.hn), ?_⟩
    rw [nra]
    refine ⟨sk, _, (c : Nat), rfl, s4, by omega, by omega, by omega, fun H5 y y0 y1 q5 s5 => ?_⟩
    obtain ⟨y', rfl⟩ : ∃ y' : Nat, y = (y' : Int) := ⟨y.toNat, (Int.toNat_of_nonneg y0).symm⟩
    have f5 := f4.trans (Fr.of_eq q5)
    have nlm : (NL ms).length = n := by unfold NL; rw [List.length_map, ml]
    refine ⟨_, rfl, _, rfl, t, _, _, .ref a, rfl, rfl, SqT.of (f5 _ nat _ ht), rfl, a, _, rfl, .inl (SqL.of (f5 _ naa _ ha)), _, _, rfl, rfl, ?_⟩
    rw [nlm]
    refine ⟨sk, _, ((n : Nat) : Int) + 1, rfl, s5, by omega, by omega, by omega, fun H6 x x0 x1 q6 s6 => ?_⟩
    obtain ⟨x', rfl⟩ : ∃ x' : Nat, x = (x' : Int) := ⟨x.toNat, (Int.toNat_of_nonneg x0).symm⟩
    refine ⟨_, _, rfl, ?_⟩
    have f6 := (Fr.of_eq q5).trans (Fr.of_eq q6)
    have F6 := f4.trans f6
    have ow6 := ow4.fr out f6
    obtain ⟨r, hr⟩ : ∃ r, rs[y']? = some r := ⟨_, List.getElem?_eq_getElem (by omega)⟩
    obtain ⟨t6, b6, tp6, mm6, nn6, la, xs6, ls6, e6, A6⟩ := edit_at ow6 nd1 hrs hr
    obtain rfl := V.ref.inj e6
    have inAs : ∀ z ∈ [t, b, tp, mm], z ≠ sk := fun z hz e => out (e ▸ (A4.out z hz).2.2)
    have eb6 : b = b6 := by
      obtain ⟨a4, h4⟩ := A4.ht
      obtain ⟨a6, h6⟩ := A6.ht
      have h4' := f6 _ (inAs t (by simp)) _ h4
      rw [h6] at h4'
      have := HO.tup.inj (Option.some.inj h4')
      simp only [List.cons.injEq, V.ref.injEq, and_true] at this
      exact this.2.symm
    subst eb6
    have ex6 : xs = xs6 := by
      have h4' := f6 _ (inAs b (by simp)) _ A4.hb
      rw [A6.hb] at h4'
      exact (HO.lst.inj (Option.some.inj h4')).symm
    subst ex6
    have etp : tp = tp6 := by
      have := A4.hx
      rw [A6.hx] at this
      exact (V.ref.inj (Option.some.inj this)).symm
    subst etp
    have emn : mm = mm6 ∧ nn = nn6 := by
      have h4' := f6 _ (inAs tp (by simp)) _ A4.htp
      rw [A6.htp] at h4'
      have := HO.tup.inj (Option.some.inj h4')
      simp only [List.cons.injEq, V.ref.injEq, and_true] at this
      exact ⟨this.1.symm, this.2.symm⟩
    obtain ⟨rfl, rfl⟩ := emn
    have rm := List.mem_of_getElem? hr
    have rlen := wr r rm
    have nri : (IL r.is).length = n := by unfold IL; rw [List.length_map, rlen]
    have nla : la ≠ sk := fun e => out (e ▸ A6.m1)
    have tr := ty rs rsm
    have back : ∀ b', b' ≠ sk → ∀ o, H b' = some o → H6 b' = some o := fun b' hb' o e => F6 b' hb' o (g2 b' hb' o (sm1 b' o e))
    have hne : ∀ (b' : Addr) (o : HO), H b' = some o → ∀ z ∈ bs, b' ≠ z := fun b' o e z hz w => by
      have := nw1 z hz
      rw [← w, e] at this
      cases this
    refine ⟨_, rfl, _, rfl, t, _, _, .ref a, rfl, rfl, SqT.of (F6 _ nat _ ht), rfl, a, _, rfl, .inl (SqL.of (F6 _ naa _ ha)), ?_⟩
    rw [nlm]
    refine ⟨rfl, _, rfl, ite2 (fun hk => ?_) (fun hk => ?_)⟩
    · obtain ⟨av, hav⟩ : ∃ av, (rs.map (·.am))[y']? = some av := ⟨_, List.getElem?_eq_getElem (by rw [List.length_map]; omega)⟩
      have havV : (IL (rs.map (·.am)))[y']? = some (V.int av) := by unfold IL; rw [List.getElem?_map, hav]; rfl
      refine ⟨_, rfl, _, rfl, nn, _, _, .int av, rfl, rfl, SqL.of A6.hn, atI_nat havV, _, _, rfl, rfl, ?_⟩
      refine ⟨_, rfl, _, rfl, nn, IL (rs.map (·.am)), _, y', rfl, rfl, A6.hn, by rw [nra]; exact ixN_nat (by omega), ?_⟩
      obtain ⟨ams', hams⟩ : ∃ ams', ams' = (rs.map (·.am)).set y' (av + 1) := ⟨_, rfl⟩
      have e9 : upd H6 nn (.lst ((IL (rs.map (·.am))).set y' (V.int (av + 1)))) nn = some (.lst (IL ams')) := by
        rw [upd_same, hams]
        conv => rhs; unfold IL; rw [List.map_set]
        rfl
      have al' : ams'.length = rs.length := by rw [hams, List.length_set, List.length_map]
      have sm20 : ∀ y ∈ rs.map (·.am), y.natAbs ≤ 20 := fun y hy => by
        obtain ⟨s, hs, e⟩ := List.mem_map.mp hy
        rw [← e]
        exact (tr s hs).2
      have ab : ∀ x ∈ ams', x.natAbs ≤ 100 := fun x hx => by
        rw [hams] at hx
        rcases List.mem_or_eq_of_mem_set hx with e | e
        · exact Nat.le_trans (sm20 _ e) (by decide)
        · have := sm20 av (List.mem_of_getElem? hav)
          rw [e]
          omega
      have own := A6.edit _ r.is ams' ((upd_ne A6.ne).trans A6.hla) e9 al' fun z hz z1 z2 o e => (upd_ne z2).trans e
      exact ⟨_, rfl, q _ (.ref t) bs _ (fun b' hb' o e => (upd_ne (hne b' o e nn A6.m2)).trans (back b' hb' o e)) ((s6.le (by omega)).put (Ne.symm nnn)) own nw1 nd1 (O.edit rsm rlen al' (O.sml rs rsm r rm) ab)⟩
    · have xn : x' < n := by
        have : ¬ ((x' : Nat) : Int) = (n : Nat) := fun e => hk (decide_eq_true (congrArg V.int e))
        omega
      obtain ⟨ev, hev⟩ : ∃ ev, r.is[x']? = some ev := ⟨_, List.getElem?_eq_getElem (by omega)⟩
      have hevV : (IL r.is)[x']? = some (V.int ev) := by unfold IL; rw [List.getElem?_map, hev]; rfl
      refine ⟨_, rfl, _, rfl, mm, ls6, _, .ref la, rfl, rfl, SqL.of A6.hm, atI_nat A6.hl, ?_⟩
      refine ⟨_, rfl, _, rfl, la, _, _, .int ev, rfl, rfl, SqL.of A6.hla, atI_nat hevV, _, _, rfl, rfl, ?_⟩
      refine ⟨_, rfl, _, rfl, la, IL r.is, _, x', rfl, rfl, A6.hla, by rw [nri]; exact ixN_nat (by omega), ?_⟩
      obtain ⟨is', his⟩ : ∃ is', is' = r.is.set x' (ev - 1) := ⟨_, rfl⟩
      have e8 : upd H6 la (.lst ((IL r.is).set x' (V.int (ev - 1)))) la = some (.lst (IL is')) := by
        rw [upd_same, his]
        conv => rhs; unfold IL; rw [List.map_set]
        rfl
      have il' : is'.length = n := by rw [his, List.length_set, rlen]
      have ib' : ∀ x ∈ is', x.natAbs ≤ 100 := fun x hx => by
        have b0 := (tr r rm).1
        rw [his] at hx
        rcases List.mem_or_eq_of_mem_set hx with z | z
        · exact Nat.le_trans (b0 x z) (by decide)
        · have := b0 ev (List.mem_of_getElem? hev)
          rw [z]
          omega
      have al' : (rs.map (·.am)).length = rs.length := List.length_map ..
      have ab : ∀ x ∈ rs.map (·.am), x.natAbs ≤ 100 := fun x hx => by
        obtain ⟨s, hs, e⟩ := List.mem_map.mp hx
        rw [← e]
        exact O.ams rs rsm s hs
      have own := A6.edit _ is' (rs.map (·.am)) e8 ((upd_ne (Ne.symm A6.ne)).trans A6.hn) al' fun z hz z1 z2 o e => (upd_ne z1).trans e
      exact ⟨_, rfl, q _ (.ref t) bs _ (fun b' hb' o e => (upd_ne (hne b' o e la A6.m1)).trans (back b' hb' o e)) ((s6.le (by omega)).put (Ne.symm nla)) own nw1 nd1 (O.edit rsm il' al' ib' ab)⟩
end
end K09

set_option Elab.async false
set_option linter.all false
set_option maxRecDepth 100000
set_option maxHeartbeats 4000000
namespace K09
open PySem L2 DL PySem.HouseX CM
theorem dot_set : ∀ {as bs : List Int} {k : Nat} (d : Int), as.length = bs.length → k < bs.length → dotI as (bs.set k (bs.getD k 0 + d)) = dotI as bs + as.getD k 0 * d
  | a :: as, b :: bs, 0, d, _, _ => by
    show a * (b + d) + dotI as bs = a * b + dotI as bs + a * d
    rw [Int.mul_add]
    omega
  | a :: as, b :: bs, k + 1, d, h, hk => by
    have ih := dot_set (as := as) (bs := bs) (k := k) d (Nat.succ.inj h) (Nat.lt_of_succ_lt_succ hk)
    show a * b + dotI as (bs.set k (bs.getD k 0 + d)) = a * b + dotI as bs + as.getD k 0 * d
    rw [ih]
    omega
  | [], [], _, _, _, hk => absurd hk (by simp)
  | [], _ :: _, _, _, h, _ => nomatch h
  | _ :: _, [], _, _, h, _ => nomatch h
def toI (s : List Nat) : List Int := s.map fun n : Nat => (n : Int)
theorem toI_set (s : List Nat) (k : Nat) (d : Nat) (hk : k < s.length) : toI (s.set k (s.getD k 0 + d)) = (toI s).set k ((toI s).getD k 0 + (d : Int)) := by
  unfold toI
  rw [List.map_set]
  congr 1
  rw [List.getD_eq_getElem?_getD, List.getD_eq_getElem?_getD, List.getElem?_map, List.getElem?_eq_getElem hk]
  rfl
theorem at_set {r : Line} {s : List Nat} {k : Nat} (d : Nat) (h : r.is.length = s.length) (hk : k < s.length) : r.at (toI (s.set k (s.getD k 0 + d))) = r.at (toI s) + r.is.getD k 0 * (d : Int) := by
  unfold Line.at
  rw [toI_set s k d hk, dot_set (d : Int) (by unfold toI; rw [List.length_map]; exact h) (by unfold toI; rw [List.length_map]; exact hk)]
  omega
theorem pdc_set {α : Type} {F : List Nat → α} {n i q : Nat} (P : FM.PdC F n i q) {s : List Nat} (hs : s.length = n) (hi : i < n) : F (s.set i (s.getD i 0 + q)) = F s := by
  have e := list_mid (l := s) (k := i) (by omega) 0
  have l : (s.take i).length = i := by rw [List.length_take]; omega
  obtain ⟨y, hy⟩ : ∃ y, y = s.getD i 0 := ⟨_, rfl⟩
  rw [← hy] at e ⊢
  have p := P (s.take i) y (s.drop (i + 1)) l (by rw [l, List.length_drop]; omega)
  have e2 : s.set i (y + q) = s.take i ++ (y + q) :: s.drop (i + 1) := by
    conv => lhs; rw [e, set_mid l]
  rw [e2, p, ← e]
def startsN (ms r : List Nat) : List (List Nat) := r :: (List.range ms.length).map fun i => r.set i (r.getD i 0 + ms.getD i 0)
def resN (L : List Nat → Line) (s : List Nat) : Int := (L s).at (toI s)
def HangsL (L : List Nat → Line) (ms : List Nat) (k : Nat) : Prop := ∃ r, FM.Rest ms r ∧ ∃ s ∈ startsN ms r, ∃ d, 1 ≤ d ∧ d ≤ ms.getD k 0 ∧ resN L (s.set k (s.getD k 0 + d)) ≠ resN L s
theorem starts_len {ms r s : List Nat} (hr : r.length = ms.length) (h : s ∈ startsN ms r) : s.length = ms.length := by
  rcases List.mem_cons.mp h with e | e
  · rw [e, hr]
  · obtain ⟨i, _, rfl⟩ := List.mem_map.mp e
    rw [List.length_set, hr]
theorem modl_getD {ms s : List Nat} : ∀ {i : Nat}, s.length = ms.length → (FM.modl ms s).getD i 0 = s.getD i 0 % ms.getD i 0 ∨ ms.length ≤ i := by
  induction ms generalizing s with
  | nil => intro i _; exact .inr (Nat.zero_le _)
  | cons m ms ih =>
    intro i h
    match s, h, i with
    | x :: s, h, 0 => exact .inl rfl
    | x :: s, h, i + 1 =>
      rcases ih (s := s) (i := i) (Nat.succ.inj h) with e | e
      · exact .inl e
      · exact .inr (Nat.succ_le_succ e)
theorem modl_set_same {ms s : List Nat} {k : Nat} (h : s.length = ms.length) (hk : k < ms.length) (d : Nat) : FM.modl ms (s.set k (s.getD k 0 + d)) = FM.modl ms ((FM.modl ms s).set k ((FM.modl ms s).getD k 0 + d)) := by
  induction ms generalizing s k with
  | nil => exact absurd hk (by simp)
  | cons m ms ih =>
    match s, h, k, hk with
    | x :: s, h, 0, _ =>
      show (x + d) % m :: FM.modl ms s = (x % m + d) % m :: FM.modl ms (FM.modl ms s)
      have i2 : FM.modl ms (FM.modl ms s) = FM.modl ms s := by
        have : ∀ (ms s : List Nat), s.length = ms.length → FM.modl ms (FM.modl ms s) = FM.modl ms s := fun ms => by
          induction ms with
          | nil => intro s h; match s, h with | [], _ => rfl
          | cons q ms ih2 =>
            intro s h
            match s, h with
            | y :: s, h =>
              show y % q % q :: FM.modl ms (FM.modl ms s) = y % q :: FM.modl ms s
              rw [Nat.mod_mod, ih2 s (Nat.succ.inj h)]
        exact this ms s (Nat.succ.inj h)
      rw [i2]
      congr 1
      rw [Nat.add_mod, Nat.add_mod (x % m) d, Nat.mod_mod]
    | x :: s, h, k + 1, hk =>
      show x % m :: FM.modl ms (s.set k (s.getD k 0 + d)) = x % m % m :: FM.modl ms ((FM.modl ms s).set k ((FM.modl ms s).getD k 0 + d))
      rw [Nat.mod_mod, ih (s := s) (k := k) (Nat.succ.inj h) (Nat.lt_of_succ_lt_succ hk)]
theorem hangs_iff {L : List Nat → Line} {ms ls : List Nat} {n k : Nat} {p : List Line} (T : FM.Told L ms p) (LL : FM.LeastT L ls) (ml : ms.length = n) (ll : ls.length = n) (kn : k < n) (wid : ∀ s, s.length = n → (L s).is.length = n) :
    HangsL L ms k ↔ (1 < ls.getD k 0 ∨ ∃ s, s.length = n ∧ (L s).is.getD k 0 ≠ 0) := by
  have lk : ls[k]? = some (ls.getD k 0) := by rw [List.getD_eq_getElem?_getD, List.getElem?_eq_getElem (by omega)]; rfl
  have mk : ms[k]? = some (ms.getD k 0) := by rw [List.getD_eq_getElem?_getD, List.getElem?_eq_getElem (by omega)]; rfl
  obtain ⟨l0, lp, lst⟩ := LL.atI lk
  rw [ll] at lp lst
  have m0 : 0 < ms.getD k 0 := T.pos _ (List.mem_of_getElem? mk)
  constructor
  · rintro ⟨r, hr, s, hs, d, d1, d2, ne⟩
    refine Classical.byContradiction fun hn => ?_
    have h1 : ¬ 1 < ls.getD k 0 := fun z => hn (.inl z)
    have h2 : ∀ s, s.length = n → (L s).is.getD k 0 = 0 := fun s hs => Classical.byContradiction fun z => hn (.inr ⟨s, hs, z⟩)
    have e1 : ls.getD k 0 = 1 := by omega
    rw [e1] at lp
    have sl : s.length = n := by rw [starts_len (FM.rest_len hr) hs, ml]
    have P := lp.times d
    rw [Nat.one_mul] at P
    apply ne
    unfold resN
    rw [pdc_set P sl kn, at_set d (by rw [wid s sl, sl]) (by omega), h2 s sl, Int.zero_mul, Int.add_zero]
  · intro h
    refine Classical.byContradiction fun hn => ?_
    have key : ∀ r, FM.Rest ms r → ∀ s ∈ startsN ms r, ∀ d, 1 ≤ d → d ≤ ms.getD k 0 → resN L (s.set k (s.getD k 0 + d)) = resN L s := fun r hr s hs d d1 d2 => Classical.byContradiction fun z => hn ⟨r, hr, s, hs, d, d1, d2, z⟩
    have pk : FM.PdC L n k (ms.getD k 0) := by have := T.perI mk; rwa [ml] at this
    have zero : ∀ r, FM.Rest ms r → (L r).is.getD k 0 = 0 := fun r hr => by
      have rl : r.length = n := by rw [FM.rest_len hr, ml]
      have e := key r hr r List.mem_cons_self _ m0 (Nat.le_refl _)
      unfold resN at e
      rw [pdc_set pk rl kn, at_set _ (by rw [wid r rl, rl]) (by omega)] at e
      have e2 : (L r).is.getD k 0 * ((ms.getD k 0 : Nat) : Int) = 0 := by omega
      rcases Int.mul_eq_zero.mp e2 with z | z
      · exact z
      · omega
    have zeroA : ∀ s, s.length = n → (L s).is.getD k 0 = 0 := fun s hs => by
      rw [← T.modl (show s.length = ms.length by omega)]
      exact zero _ (FM.modl_rest T.pos (by omega))
    have step : ∀ r, FM.Rest ms r → L (r.set k (r.getD k 0 + 1)) = L r := fun r hr => by
      have rl : r.length = n := by rw [FM.rest_len hr, ml]
      obtain ⟨u, hu⟩ : ∃ u, u = r.set k (r.getD k 0 + 1) := ⟨_, rfl⟩
      have ul : u.length = n := by rw [hu, List.length_set, rl]
      have at0 : (L u).at (toI r) = (L r).at (toI r) := by
        have e := key r hr r List.mem_cons_self 1 (Nat.le_refl _) m0
        unfold resN at e
        rw [← hu] at e
        rw [← e, hu, at_set 1 (by rw [wid _ (by rw [List.length_set]; exact rl), rl]) (by omega), ← hu, zeroA u ul]
        omega
      have cof : ∀ i, i < n → (L u).is.getD i 0 = (L r).is.getD i 0 := fun i hi => by
        by_cases ik : i = k
        · rw [ik, zeroA u ul, zero r hr]
        · have mi : ms[i]? = some (ms.getD i 0) := by rw [List.getD_eq_getElem?_getD, List.getElem?_eq_getElem (by omega)]; rfl
          have mi0 : 0 < ms.getD i 0 := T.pos _ (List.mem_of_getElem? mi)
          have pi : FM.PdC L n i (ms.getD i 0) := by have := T.perI mi; rwa [ml] at this
          obtain ⟨r', hr'⟩ : ∃ r', r' = r.set i (r.getD i 0 + ms.getD i 0) := ⟨_, rfl⟩
          have rl' : r'.length = n := by rw [hr', List.length_set, rl]
          have mem : r' ∈ startsN ms r := List.mem_cons_of_mem _ (List.mem_map.mpr ⟨i, List.mem_range.mpr (by omega), hr'.symm⟩)
          have e := key r hr r' mem 1 (Nat.le_refl _) m0
          have gk : r'.getD k 0 = r.getD k 0 := by
            rw [hr', List.getD_eq_getElem?_getD, List.getElem?_set_ne ik, ← List.getD_eq_getElem?_getD]
          have gi : u.getD i 0 = r.getD i 0 := by
            rw [hu, List.getD_eq_getElem?_getD, List.getElem?_set_ne (fun z => ik z.symm), ← List.getD_eq_getElem?_getD]
          have comm : r'.set k (r'.getD k 0 + 1) = u.set i (u.getD i 0 + ms.getD i 0) := by
            rw [gk, gi, hr', hu]
            exact List.set_comm _ _ ik
          have eL : L (r'.set k (r'.getD k 0 + 1)) = L u := by rw [comm, pdc_set pi ul hi]
          have eR : L r' = L r := by rw [hr', pdc_set pi rl hi]
          unfold resN at e
          rw [eL, eR, at_set 1 (by rw [wid u ul, rl']) (by omega), zeroA u ul, Int.zero_mul, Int.add_zero, hr', at_set _ (by rw [wid u ul, rl]) (by omega), at_set _ (by rw [wid r rl, rl]) (by omega), at0] at e
          have e2 : ((L u).is.getD i 0 - (L r).is.getD i 0) * ((ms.getD i 0 : Nat) : Int) = 0 := by
            rw [Int.sub_mul]
            omega
          rcases Int.mul_eq_zero.mp e2 with z | z
          · omega
          · omega
      have eis : (L u).is = (L r).is := by
        refine List.ext_getElem (by rw [wid u ul, wid r rl]) fun i h1 h2 => ?_
        have := cof i (by rw [wid u ul] at h1; exact h1)
        rw [List.getD_eq_getElem?_getD, List.getD_eq_getElem?_getD, List.getElem?_eq_getElem h1, List.getElem?_eq_getElem h2] at this
        exact this
      have eam : (L u).am = (L r).am := by
        unfold Line.at at at0
        rw [eis] at at0
        omega
      rw [← hu]
      cases hL : L u
      cases hR : L r
      rw [hL, hR] at eis eam
      simp only at eis eam
      rw [eis, eam]
    have P1 : FM.PdC L n k 1 := fun r1 a r2 h1 h2 => by
      have sl : (r1 ++ a :: r2).length = ms.length := by rw [List.length_append, List.length_cons]; omega
      have sl1 : (r1 ++ (a + 1) :: r2).length = ms.length := by rw [List.length_append, List.length_cons]; omega
      have es : r1 ++ (a + 1) :: r2 = (r1 ++ a :: r2).set k ((r1 ++ a :: r2).getD k 0 + 1) := by
        rw [getD_mid h1, set_mid h1]
      have R := FM.modl_rest T.pos sl
      have rl : (FM.modl ms (r1 ++ a :: r2)).length = ms.length := FM.rest_len R
      rw [← T.modl sl1, es, modl_set_same sl (by omega) 1, T.modl (by rw [List.length_set]; exact rl), step _ R, T.modl sl]
    have d1 := lst 1 (Nat.one_pos) P1
    rcases h with h | ⟨s, hs, h⟩
    · have := Nat.le_of_dvd Nat.one_pos d1
      omega
    · exact h (zeroA s hs)
end K09

set_option Elab.async false
set_option linter.all false
set_option maxRecDepth 100000
set_option maxHeartbeats 4000000
set_option exponentiation.threshold 5000
namespace K09
open PySem L2 DL PySem.HouseX CM
def spLHangs (K : PySem.W.Frag) : Sp := fun vs H Q _ => ∃ (v : V) (n c j k : Nat) (ms : List Nat) (ps : List (List Line)), vs = [v, .int j, .int k] ∧ Dp K H v (formD ms ps) ∧ FK n c ms ps ∧ j < c ∧ k < n ∧
  ∀ H' B, Same H H' → (B = true ↔ HangsL (lineF ms ps j) ms k) → Q (.bl B) H'
structure TxtQ5 (mg : Str → Option Value) (fR fM fA : Addr) : Prop where
  range : mg "range" = none
  enum : mg "enumerate" = none
  gR : mg "_law_hd_rests" = some (.ref fR)
  gM : mg "_law_hd_moved" = some (.ref fM)
  gA : mg "_law_hd_at" = some (.ref fA)
/-- states in lists of their own, in the list at D -/
structure Sts (H : Hp) (D : Addr) (sts : List (List Nat)) (vs : List V) : Prop where
  len : vs.length = sts.length
  at_ : ∀ (i : Nat) (s : List Nat), sts[i]? = some s → ∃ a, vs[i]? = some (.ref a) ∧ a ≠ D ∧ H a = some (.lst (IL (toI s)))
theorem Sts.move {H H' : Hp} {D : Addr} {sts : List (List Nat)} {vs : List V} (S : Sts H D sts vs) (k : ∀ b, b ≠ D → ∀ o, H b = some o → H' b = some o) : Sts H' D sts vs :=
  ⟨S.len, fun i s h => by
    obtain ⟨a, h1, h2, h3⟩ := S.at_ i s h
    exact ⟨a, h1, h2, k a h2 _ h3⟩⟩
theorem Sts.snoc {H : Hp} {D p : Addr} {sts : List (List Nat)} {vs : List V} {s : List Nat} (S : Sts H D sts vs) (hp : p ≠ D) (h : H p = some (.lst (IL (toI s)))) : Sts H D (sts ++ [s]) (vs ++ [.ref p]) := by
  refine ⟨by rw [List.length_append, List.length_append, S.len]; rfl, fun i s' hi => ?_⟩
  by_cases e : i < sts.length
  · rw [List.getElem?_append_left e] at hi
    obtain ⟨a, h1, h2, h3⟩ := S.at_ i s' hi
    exact ⟨a, by rw [List.getElem?_append_left (by rw [S.len]; exact e)]; exact h1, h2, h3⟩
  · have il := (List.getElem?_eq_some_iff.mp hi).1
    rw [List.length_append, List.length_singleton] at il
    have e2 : i = sts.length := by omega
    subst e2
    rw [List.getElem?_append_right (Nat.le_refl _), Nat.sub_self] at hi
    obtain rfl := Option.some.inj hi
    refine ⟨p, ?_, hp, h⟩
    rw [← S.len, List.getElem?_append_right (Nat.le_refl _), Nat.sub_self]
    rfl
theorem rows_nat (ms : List Nat) (ps : List (List Line)) (s : List Nat) : rowsOf ms ps (toI s) = formF ms ps s := by
  unfold rowsOf formF FM.told toI
  rw [modI_nat]
theorem res_at {n c : Nat} {ms : List Nat} {ps : List (List Line)} (O : FK n c ms ps) {s : List Nat} {j : Nat} (hs : s.length = n) (jc : j < c) : (IL ((rowsOf ms ps (toI s)).map (·.at (toI s))))[j]? = some (V.int (resN (lineF ms ps j) s)) := by
  rw [rows_nat]
  have w := (O.wid _ (O.mem hs)).2
  unfold IL resN lineF
  rw [List.getElem?_map, List.getElem?_map, List.getElem?_eq_getElem (by omega), List.getD_eq_getElem?_getD, List.getElem?_eq_getElem (by omega)]
  rfl
theorem toI_len (s : List Nat) : (toI s).length = s.length := List.length_map ..
theorem toI_at {s : List Nat} {k : Nat} (h : k < s.length) : (IL (toI s))[k]? = some (V.int (s.getD k 0 : Nat)) := by
  unfold IL toI
  rw [List.getElem?_map, List.getElem?_map, List.getElem?_eq_getElem h, List.getD_eq_getElem?_getD, List.getElem?_eq_getElem h]
  rfl
theorem mem_le {s : List Nat} {B : Nat} (h : ∀ x ∈ s, x ≤ B) : ∀ x ∈ toI s, x.natAbs ≤ B := fun x hx => by
  obtain ⟨y, hy, rfl⟩ := List.mem_map.mp hx
  exact h y hy
theorem set_le {s : List Nat} {B C k : Nat} (h : ∀ x ∈ s, x ≤ B) (hc : s.getD k 0 + C ≤ B + C) {d : Nat} (hd : d ≤ C) : ∀ x ∈ s.set k (s.getD k 0 + d), x ≤ B + C := fun x hx => by
  rcases List.mem_or_eq_of_mem_set hx with z | z
  · have := h x z
    omega
  · rw [z]
    omega
theorem getD_le {s : List Nat} {B k : Nat} (h : ∀ x ∈ s, x ≤ B) : s.getD k 0 ≤ B := by
  by_cases e : k < s.length
  · rw [List.getD_eq_getElem?_getD, List.getElem?_eq_getElem e]
    exact h _ (List.getElem_mem _)
  · rw [List.getD_eq_getElem?_getD, List.getElem?_eq_none (by omega)]
    exact Nat.zero_le _
section
variable {P : Program} {w : World} {K : PySem.W.Frag} {mg : Str → Option Value} {base : Heap}
theorem scLHangs : FnScope ["_law_form", "_law_result", "_law_rank", "_law_moduli", "_law_rests_here", "_law_starts", "_law_spot", "_law_modulus_here", "_law_state_here", "_law_owed", "_law_more", "_law_near"] ["_law_form", "_law_result", "_law_rank"] (defScope sLHangs) := ⟨rfl, rfl, rfl, by decide +kernel, rfl, by decide +kernel, by decide +kernel⟩
theorem ok_lhangs {f fR fM fA : Addr} {fd fdR fdM fdA : FuncData} (F : Fun K "_law_hd_hangs" "_law_hd_hangs" sLHangs f fd) (T : TxtQ5 mg fR fM fA)
    (GR : FnOk P w K mg base CX0 1 fR fdR ["_law_moduli"] (spLRests K)) (kR : PySem.W.keepIn K (.ref fR) = true) (bR : Binds K fdR ["_law_moduli"] [])
    (GM : FnOk P w K mg base CX0 1 fM fdM ["_law_state_here", "_law_rank", "_law_amount"] (spMoved K)) (kM : PySem.W.keepIn K (.ref fM) = true) (bM : Binds K fdM ["_law_state_here", "_law_rank", "_law_amount"] [])
    (GA : FnOk P w K mg base CX0 2 fA fdA ["_law_form", "_law_state_here"] (spLAt K)) (kA : PySem.W.keepIn K (.ref fA) = true) (bA : Binds K fdA ["_law_form", "_law_state_here"] []) : FnOk P w K mg base CX0 3 f fd ["_law_form", "_law_result", "_law_rank"] (spLHangs K) := by
  have nd := scLHangs.nd
  refine F.ok scLHangs (fun vs H Q E h => ?_) (fun cdv A outer s H vs Q E hr h => ?_)
  · obtain ⟨_, _, _, _, _, _, _, rfl, _⟩ := h
    rfl
  · obtain ⟨v, n, c, j, k, ms, ps, rfl, hv, O, jc, kn, q⟩ := h
    have hr1 : Room 1 _ := hr.mono (by decide)
    have hr2 : Room 2 _ := hr.mono (by decide)
    refine ⟨_, pss_cons (ps_set (i := 3) nd rfl (Or.inl rfl) (pe_ix ix_tup (pv 0) pe_int (fun _ _ => rfl)))
      (pss_cons (ps_for PassesOwn.never rfl (pi_list (pe_call GR hr1 rfl T.gR kR bR .nil pass0 (pa_cons (pv 3) pa_nil))) (pg_name (i := 4) nd rfl (Or.inl rfl))
        (pss_cons (ps_set (i := 5) nd rfl (Or.inl rfl) (pe_lst (pa_cons (pv 4) pa_nil)))
        (pss_cons (ps_for PassesOwn.never rfl (pi_enum (by rfl) T.enum (pa_cons (pv 3) pa_nil)) (pg_tup rfl (pgs_cons (pg_name (i := 6) nd rfl (Or.inl rfl)) (pgs_cons (pg_name (i := 7) nd rfl (Or.inl rfl)) pgs_nil)))
          (pss_one (ps_expr (pe_bm PySem.F.plainAttrs_list PySem.F.slot_list_append PySem.F.type_list_append mt_append (pv 5) (pa_cons (pe_call GM hr1 rfl T.gM kM bM .nil pass0 (pa_cons (pv 4) (pa_cons (pv 6) (pa_cons (pe_op op_add (pe_ix ix_list (pv 4) (pv 6) (fun _ _ => rfl)) (pv 7)) pa_nil)))) pa_nil)))))
        (pss_one (ps_for PassesOwn.never rfl (pi_list (pv 5)) (pg_name (i := 8) nd rfl (Or.inl rfl))
          (pss_cons (ps_set (i := 9) nd rfl (Or.inl rfl) (pe_ix ix_list (pe_call GA hr2 rfl T.gA kA bA .nil pass0 (pa_cons (pv 0) (pa_cons (pv 8) pa_nil))) (pv 1) (fun _ _ => rfl)))
          (pss_one (ps_for PassesOwn.never rfl (pi_range2 (by rfl) T.range (pa_cons pe_int (pa_cons (pe_op op_add (pe_ix ix_list (pv 3) (pv 2) (fun _ _ => rfl)) pe_int) pa_nil))) (pg_name (i := 10) nd rfl (Or.inl rfl))
            (pss_cons (ps_set (i := 11) nd rfl (Or.inl rfl) (pe_call GM hr1 rfl T.gM kM bM .nil pass0 (pa_cons (pv 8) (pa_cons (pv 2) (pa_cons (pe_op op_add (pe_ix ix_list (pv 8) (pv 2) (fun _ _ => rfl)) (pv 10)) pa_nil)))))
            (pss_one (ps_if (pt_cmpR op_ne (pe_ix ix_list (pe_call GA hr2 rfl T.gA kA bA .nil pass0 (pa_cons (pv 0) (pa_cons (pv 11) pa_nil))) (pv 1) (fun _ _ => rfl)) (pv 9) (nomark _)) (pss_one (ps_ret pe_bl)) pss_nil)))))))))))
      (pss_one (ps_ret pe_bl))), ?_⟩
    have n4 := O.n4
    have n0 := O.n0
    have vv := O.vol
    have ml := O.len
    have c4 := O.c4
    obtain ⟨t, a, b, xs, rfl, ht, ha, hb, dx⟩ := dp_form hv
    refine ⟨_, rfl, t, _, _, .ref a, rfl, rfl, ht, rfl, ?_⟩
    refine ⟨_, rfl, a, ms, rfl, ha, O.pos, by omega, by omega, fun H1 rp rx rcs sm1 hrp ro rnew => ?_⟩
    refine ⟨rp, rfl, ⟨_, SqL.of hrp⟩, ?_⟩
    have mle : ∀ m ∈ ms, m ≤ 600 := fun m hm => by
      obtain ⟨i, hi⟩ := List.mem_iff_getElem?.mp hm
      have il := (List.getElem?_eq_some_iff.mp hi).1
      have v2 := vol_take O.pos (i + 1)
      rw [vol_snoc il] at v2
      have p0 := FM.vol_pos (ms := ms.take i) fun z hz => O.pos z (List.mem_of_mem_take hz)
      have e : ms.getD i 0 = m := by rw [List.getD_eq_getElem?_getD, hi]; rfl
      rw [e] at v2
      exact Nat.le_trans (Nat.le_trans (Nat.le_mul_of_pos_left _ p0) v2) vv
    have okL : ∀ rs ∈ ps, rs.length ≤ 100 ∧ ∀ l ∈ rs, LineOk ms.length l := fun rs hrs => by
      obtain ⟨w1, w2⟩ := O.wid rs hrs
      exact ⟨by omega, fun l hl => ⟨by rw [w1 l hl, ml], fun x hx => Nat.le_trans (O.sml rs hrs l hl x hx) (by decide)⟩⟩
    have rxl : rx.length = (allRests ms).length := by
      have := ro.len
      rwa [List.length_map] at this
    obtain ⟨L, hL⟩ : ∃ L, L = lineF ms ps j := ⟨_, rfl⟩
    have lk : (NL ms)[k]? = some (V.int (ms.getD k 0 : Nat)) := by
      unfold NL
      rw [List.getElem?_map, List.getElem?_eq_getElem (by omega), List.getD_eq_getElem?_getD, List.getElem?_eq_getElem (by omega)]
      rfl
    refine for_list (K := K) (a := rp) (xs := rx) (fun i σ H' => Same H1 H' ∧ (∀ r ∈ (allRests ms).take i, ∀ s ∈ startsN ms r, ∀ d, 1 ≤ d → d ≤ ms.getD k 0 → resN L (s.set k (s.getD k 0 + d)) = resN L s) ∧ ∃ x4 x5 x6 x7 x8 x9 x10 x11 : Option V, σ = [some (.ref t), some (.int (j : Nat)), some (.int (k : Nat)), some (.ref a), x4, x5, x6, x7, x8, x9, x10, x11])
      ⟨Same.refl _, fun r hr => by simp at hr, _, _, _, _, _, _, _, _, rfl⟩ (fun i σ H' _ ⟨k, _⟩ => SqL.of (k _ _ hrp)) ?_ ?_
    · rintro i x σ H2 hx ⟨sm2, pre, x4, x5, x6, x7, x8, x9, x10, x11, rfl⟩
      obtain ⟨d, b2, hd1, hd2, hd3⟩ := (ro.same sm2).at hx
      rw [List.getElem?_map] at hd1
      obtain ⟨r, er, rfl⟩ := Option.map_eq_some_iff.mp hd1
      obtain ⟨ra, rfl, hra⟩ := own_nats hd2
      have R := rest_of (List.mem_of_getElem? er)
      have rlen : r.length = ms.length := FM.rest_len R
      have k2 := sm1.trans sm2
      have hraI : H2 ra = some (.lst (IL (toI r))) := by unfold toI; rw [nl_il]; exact hra
      refine ⟨_, rfl, (by show 1 ≤ sizeLine; decide), fun D hD => ?_⟩
      have zD := same_new (o := .lst [V.ref ra]) hD
      have raD : ra ≠ D := ne_of_none hraI hD
      have eD : upd H2 D (.lst [V.ref ra]) D = some (.lst [V.ref ra]) := upd_same
      have S0 : Sts (upd H2 D (.lst [V.ref ra])) D ((startsN ms r).take 1) [V.ref ra] := by
        refine ⟨rfl, fun i s h => ?_⟩
        match i, h with
        | 0, h => 
          obtain rfl : r = s := Option.some.inj h
          exact ⟨ra, rfl, raD, zD _ _ hraI⟩
        | i + 1, h => exact absurd h (by simp [startsN])
      have nlm : (NL ms).length = ms.length := List.length_map ..
      have rle : ∀ x ∈ r, x ≤ 600 := fun x hx => by
        obtain ⟨i', hi'⟩ := List.mem_iff_getElem?.mp hx
        have il := (List.getElem?_eq_some_iff.mp hi').1
        have e := modl_getD (ms := ms) (s := r) (i := i') rlen
        rw [FM.modl_id R] at e
        have e1 : r.getD i' 0 = x := by rw [List.getD_eq_getElem?_getD, hi']; rfl
        have m0 : 0 < ms.getD i' 0 := by
          rw [List.getD_eq_getElem?_getD, List.getElem?_eq_getElem (by omega)]
          exact O.pos _ (List.getElem_mem _)
        rcases e with e | e
        · have := Nat.mod_lt (r.getD i' 0) m0
          have := getD_le (k := i') mle
          omega
        · omega
      have sle : ∀ s ∈ startsN ms r, ∀ x ∈ s, x ≤ 1200 := fun s hs => by
        rcases List.mem_cons.mp hs with e | e
        · rw [e]
          exact fun x hx => Nat.le_trans (rle x hx) (by decide)
        · obtain ⟨i', _, rfl⟩ := List.mem_map.mp e
          exact set_le (B := 600) (C := 600) rle (Nat.add_le_add_right (getD_le rle) _) (getD_le mle)
      have slen : (startsN ms r).length = ms.length + 1 := by unfold startsN; rw [List.length_cons, List.length_map, List.length_range]
      refine ⟨_, rfl, a, NL ms, rfl, zD.seq (k2.seq ha), ?_⟩
      refine for_it (walk_enum (K := K) (a := a) (xs := NL ms)) (fun i' σ H' => (∀ b, b ≠ D → ∀ o, upd H2 D (.lst [V.ref ra]) b = some o → H' b = some o) ∧ ∃ (vs : List V) (x6 x7 : Option V), σ = [some (.ref t), some (.int (j : Nat)), some (.int (k : Nat)), some (.ref a), some (.ref ra), some (.ref D), x6, x7, x8, x9, x10, x11] ∧ H' D = some (.lst vs) ∧ Sts H' D ((startsN ms r).take (i' + 1)) vs)
        ⟨fun _ _ _ e => e, [V.ref ra], _, _, rfl, eD, S0⟩ (fun i' σ H' _ ⟨fr, _⟩ => Same.seq (fun b o e => fr b (ne_of_none e hD) o (zD b o e)) (k2.seq ha)) ?_ ?_
      · rintro i' x σ H3 H3' hi ⟨fr, vs, x6, x7, rfl, hD3, S⟩ ⟨T', vx, vy, rfl, hT, rfl, hx', hy⟩
        have ex : vx = V.int (i' : Nat) := (Option.some.inj hx').symm
        subst ex
        have hy' : (NL ms)[i']? = some vy := hy
        have il := (List.getElem?_eq_some_iff.mp hy').1
        rw [nlm] at il
        obtain rfl := map_at (d := 0) hy'
        have zT := same_new (o := .tup [V.int (i' : Nat), V.int (ms.getD i' 0 : Nat)]) hT
        have TD : T' ≠ D := fun e => by rw [e, hD3] at hT; cases hT
        refine ⟨T', _, rfl, SqT.of upd_same, rfl, _, _, rfl, _, _, rfl, rfl, ?_⟩
        have hr3 : upd H3 T' (.tup [V.int (i' : Nat), V.int (ms.getD i' 0 : Nat)]) ra = some (.lst (IL (toI r))) := zT _ _ (fr ra raD _ (zD _ _ hraI))
        refine ⟨_, rfl, .inl ⟨rfl, _, SqL.of (zT _ _ hD3)⟩, ?_⟩
        refine ⟨_, rfl, _, rfl, _, rfl, _, rfl, ra, _, _, _, rfl, rfl, SqL.of hr3, atI_nat (toI_at (by omega)), _, rfl, _, _, rfl, rfl, ?_⟩
        refine ⟨ra, toI r, i', _, rfl, SqL.of hr3, by rw [toI_len]; omega, fun H4 p sm4 np hp => ?_⟩
        have hD4 := sm4 _ _ (zT _ _ hD3)
        have pD : p ≠ D := fun e => by rw [e, zT _ _ hD3] at np; cases np
        have hp' : H4 p = some (.lst (IL (toI (r.set i' (r.getD i' 0 + ms.getD i' 0))))) := by
          rw [hp]
          have e : (toI r).set i' (((r.getD i' 0 : Nat) : Int) + ((ms.getD i' 0 : Nat) : Int)) = toI (r.set i' (r.getD i' 0 + ms.getD i' 0)) := by
            unfold toI
            rw [List.map_set, Int.natCast_add]
          rw [e]
        have vl := S.len
        rw [List.length_take, slen] at vl
        refine ⟨D, vs, _, rfl, rfl, hD4, Nat.lt_of_le_of_lt (show vs.length ≤ 100 by omega) (by decide), ?_⟩
        refine ⟨fun b hb o e => (upd_ne hb).trans (sm4 _ _ (zT _ _ (fr b hb o e))), vs ++ [.ref p], _, _, rfl, upd_same, ?_⟩
        have tk : (startsN ms r).take (i' + 1 + 1) = (startsN ms r).take (i' + 1) ++ [r.set i' (r.getD i' 0 + ms.getD i' 0)] := by
          rw [List.take_add_one]
          congr 1
          show Option.toList (((List.range ms.length).map fun i => r.set i (r.getD i 0 + ms.getD i 0))[i']?) = _
          rw [List.getElem?_map, List.getElem?_range il]
          rfl
        rw [tk]
        refine Sts.snoc (S.move fun b hb o e => (upd_ne hb).trans (sm4 _ _ (zT _ _ e))) pD ((upd_ne pD).trans hp')
      · rintro σ H3 ⟨fr, vs, x6, x7, rfl, hD3, S⟩
        rw [nlm, ← slen, List.take_length] at S
        have sm3 : Same H2 H3 := fun b o e => fr b (ne_of_none e hD) o (zD b o e)
        have k3 := k2.trans sm3
        refine ⟨_, rfl, D, rfl, ⟨_, SqL.of hD3⟩, ?_⟩
        refine for_list (K := K) (a := D) (xs := vs) (fun i' σ H' => Same H3 H' ∧ (∀ s ∈ (startsN ms r).take i', ∀ d, 1 ≤ d → d ≤ ms.getD k 0 → resN L (s.set k (s.getD k 0 + d)) = resN L s) ∧ ∃ x8 x9 x10 x11 : Option V, σ = [some (.ref t), some (.int (j : Nat)), some (.int (k : Nat)), some (.ref a), some (.ref ra), some (.ref D), x6, x7, x8, x9, x10, x11])
          ⟨Same.refl _, fun s hs => by simp at hs, _, _, _, _, rfl⟩ (fun i' σ H' _ ⟨sm, _⟩ => SqL.of (sm _ _ hD3)) ?_ ?_
        · rintro i' x σ H4 hx' ⟨sm4, pre2, x8, x9, x10, x11, rfl⟩
          have il := (List.getElem?_eq_some_iff.mp hx').1
          rw [S.len] at il
          obtain ⟨s, es⟩ : ∃ s, (startsN ms r)[i']? = some s := ⟨_, List.getElem?_eq_getElem il⟩
          have smem := List.mem_of_getElem? es
          obtain ⟨sa, h1, h2, h3⟩ := S.at_ i' s es
          rw [hx'] at h1
          obtain rfl := Option.some.inj h1
          have sl : s.length = n := by rw [starts_len rlen smem, ml]
          have hsa := sm4 _ _ h3
          have k4 := k3.trans sm4
          have sb : ∀ x ∈ toI s, x.natAbs ≤ 10 ^ 9 := fun x hx => Nat.le_trans (mem_le (sle s smem) x hx) (by decide)
          refine ⟨_, rfl, _, rfl, .ref t, sa, ms, ps, toI s, rfl, dp_same k4 hv, SqL.of hsa, O.pos, by rw [toI_len]; omega, O.pl, by omega, by rw [toI_len]; omega, sb, okL, fun H5 p5 sm5 np5 hp5 => ?_⟩
          have e5 := res_at O sl jc
          rw [← hL] at e5
          refine ⟨_, rfl, p5, _, _, _, rfl, rfl, SqL.of hp5, atI_nat e5, ?_⟩
          have k5 := k4.trans sm5
          refine ⟨_, rfl, _, rfl, a, _, _, _, rfl, rfl, k5.seq ha, atI_nat lk, _, _, rfl, rfl, 1, ((ms.getD k 0 : Nat) : Int) + 1, rfl, ?_, ?_⟩
          · have h6 : ms.getD k 0 ≤ 600 := getD_le mle
            refine ⟨by decide, ?_, ?_, ?_⟩
            all_goals omega
          obtain ⟨M, hM⟩ : ∃ M, M = ms.getD k 0 := ⟨_, rfl⟩
          have h6 : M ≤ 600 := by rw [hM]; exact getD_le mle
          have tn : (((ms.getD k 0 : Nat) : Int) + 1 - 1).toNat = M := by rw [hM]; omega
          refine for_it (walk_range (lo := 1) (n := (((ms.getD k 0 : Nat) : Int) + 1 - 1).toNat)) (fun i2 σ H' => Same H5 H' ∧ (∀ d, 1 ≤ d → d ≤ i2 → resN L (s.set k (s.getD k 0 + d)) = resN L s) ∧ ∃ x10 x11 : Option V, σ = [some (.ref t), some (.int (j : Nat)), some (.int (k : Nat)), some (.ref a), some (.ref ra), some (.ref D), x6, x7, some (.ref sa), some (.int (resN L s)), x10, x11])
            ⟨Same.refl _, fun d d1 d2 => by omega, _, _, rfl⟩ (fun _ _ _ _ _ => trivial) ?_ ?_
          · rintro i2 x σ H6 H6' hi2 ⟨sm6, pre3, x10, x11, rfl⟩ ⟨rfl, rfl⟩
            rw [tn] at hi2
            have hsa6 := (sm5.trans sm6) _ _ hsa
            have skd : (toI s).set k (((s.getD k 0 : Nat) : Int) + (1 + ((i2 : Nat) : Int))) = toI (s.set k (s.getD k 0 + (i2 + 1))) := by
              unfold toI
              rw [List.map_set]
              congr 1
              show _ = ((s.getD k 0 + (i2 + 1) : Nat) : Int)
              omega
            refine ⟨_, rfl, _, rfl, _, rfl, _, rfl, sa, _, _, _, rfl, rfl, SqL.of hsa6, atI_nat (toI_at (by omega)), _, rfl, _, _, rfl, rfl, ?_⟩
            refine ⟨sa, toI s, k, _, rfl, SqL.of hsa6, by rw [toI_len]; omega, fun H7 p sm7 np hp => ?_⟩
            rw [skd] at hp
            have k7 := (k5.trans sm6).trans sm7
            obtain ⟨u, hu⟩ : ∃ u, u = s.set k (s.getD k 0 + (i2 + 1)) := ⟨_, rfl⟩
            rw [← hu] at hp
            have ul : u.length = n := by rw [hu, List.length_set, sl]
            have ub : ∀ x ∈ toI u, x.natAbs ≤ 10 ^ 9 := fun x hx => by
              rw [hu] at hx
              exact Nat.le_trans (mem_le (set_le (B := 1200) (C := 600) (sle s smem) (Nat.add_le_add_right (getD_le (sle s smem)) _) (by omega)) x hx) (by decide)
            refine ⟨_, rfl, _, rfl, .ref t, p, ms, ps, toI u, rfl, dp_same k7 hv, SqL.of hp, O.pos, by rw [toI_len]; omega, O.pl, by omega, by rw [toI_len]; omega, ub, okL, fun H8 p8 sm8 np8 hp8 => ?_⟩
            have e8 := res_at O ul jc
            rw [← hL] at e8
            refine ⟨_, rfl, p8, _, _, _, rfl, rfl, SqL.of hp8, atI_nat e8, _, rfl, rfl, _, rfl, ite2 (fun h => ?_) (fun h => ?_)⟩
            · have ne : resN L u ≠ resN L s := fun e => by
                rw [e] at h
                simp at h
              refine q H8 true (k7.trans sm8) ⟨fun _ => ⟨r, R, s, smem, i2 + 1, by omega, by omega, ?_⟩, fun _ => rfl⟩
              rw [← hL, ← hu]
              exact ne
            · have eq : resN L u = resN L s := Classical.byContradiction fun z => h (by
                have : ¬ V.int (resN L u) = V.int (resN L s) := fun e => z (V.int.inj e)
                rw [decide_eq_false this]
                rfl)
              refine ⟨(sm6.trans sm7).trans sm8, fun d d1 d2 => ?_, _, _, rfl⟩
              by_cases e : d = i2 + 1
              · rw [e, ← hu]
                exact eq
              · exact pre3 d d1 (by omega)
          · rintro σ H6 ⟨sm6, pre3, x10, x11, rfl⟩
            rw [tn, hM] at pre3
            refine ⟨(sm4.trans sm5).trans sm6, fun s' hs' => ?_, _, _, _, _, rfl⟩
            rw [List.take_add_one, es] at hs'
            rcases List.mem_append.mp hs' with z | z
            · exact pre2 s' z
            · rw [List.mem_singleton.mp z]
              exact pre3
        · rintro σ H4 ⟨sm4, pre2, x8, x9, x10, x11, rfl⟩
          rw [S.len, List.take_length] at pre2
          refine ⟨sm2.trans (sm3.trans sm4), fun r' hr' => ?_, _, _, _, _, _, _, _, _, rfl⟩
          rw [List.take_add_one, er] at hr'
          rcases List.mem_append.mp hr' with z | z
          · exact pre r' z
          · rw [List.mem_singleton.mp z]
            exact pre2
    · rintro σ H2 ⟨sm2, pre, x4, x5, x6, x7, x8, x9, x10, x11, rfl⟩
      rw [rxl, List.take_length] at pre
      refine q H2 false (sm1.trans sm2) ⟨fun h => (by cases h), fun h => ?_⟩
      obtain ⟨r, R, s, hs, d, d1, d2, ne⟩ := h
      rw [← hL] at ne
      exact absurd (pre r (List.mem_of_getElem? (FM.tab_at R)) s hs d d1 d2) ne
end
end K09

set_option Elab.async false
set_option linter.all false
set_option maxRecDepth 100000
set_option maxHeartbeats 4000000
set_option exponentiation.threshold 5000
namespace DL
open PySem L2
theorem OwnAll.edit2 {H : Hp} : ∀ {ds : List PyData} {xs : List V} {cs : List Addr} {i : Nat} {d : PyData}, OwnAll H ds xs cs → cs.Nodup → ds[i]? = some d → ∃ x c pre post, xs[i]? = some x ∧ Own H d x c ∧ cs = pre ++ (c ++ post) ∧
    ∀ (H' : Hp) (d' : PyData) (x' : V) (c' : List Addr), (∀ b ∈ cs, b ∉ c → ∀ o, H b = some o → H' b = some o) → Own H' d' x' c' → OwnAll H' (ds.set i d') (xs.set i x') (pre ++ (c' ++ post))
  | [], _, _, i, d, _, _, e => by simp at e
  | e :: ds, _, _, 0, d, ⟨v, vs, b1, b2, rfl, h1, h2, rfl⟩, nd, he => by
    obtain rfl := Option.some.inj he
    obtain ⟨n1, n2, n3⟩ := List.nodup_append.mp nd
    refine ⟨v, b1, [], b2, rfl, h1, rfl, fun H' d' x' c' k o => ⟨x', vs, c', b2, rfl, o, h2.frame fun b hb q e => ?_, rfl⟩⟩
    exact k b (List.mem_append_right _ hb) (fun z => n3 b z b hb rfl) q e
  | e :: ds, _, _, i + 1, d, ⟨v, vs, b1, b2, rfl, h1, h2, rfl⟩, nd, he => by
    obtain ⟨n1, n2, n3⟩ := List.nodup_append.mp nd
    obtain ⟨x, c, pre, post, hx, ow, rfl, ed⟩ := OwnAll.edit2 (i := i) h2 n2 he
    refine ⟨x, c, b1 ++ pre, post, hx, ow, by rw [List.append_assoc], fun H' d' x' c' k o => ⟨v, vs.set i x', b1, pre ++ (c' ++ post), rfl, h1.frame fun b hb q e => ?_, ed H' d' x' c' (fun b hb nb => k b (List.mem_append_right _ hb) nb) o, by rw [List.append_assoc]⟩⟩
    refine k b (List.mem_append_left _ hb) (fun z => n3 b hb b ?_ rfl) q e
    exact List.mem_append_right _ (List.mem_append_left _ z)
end DL
namespace K09
open PySem L2 DL PySem.HouseX CM
theorem nodup_swap {pre c c' post : List Addr} (h : (pre ++ (c ++ post)).Nodup) (hc : c'.Nodup) (hp : ∀ z ∈ c', z ∈ c ∨ z ∉ pre ++ (c ++ post)) : (pre ++ (c' ++ post)).Nodup := by
  obtain ⟨n1, n2, n3⟩ := List.nodup_append.mp h
  obtain ⟨m1, m2, m3⟩ := List.nodup_append.mp n2
  refine List.nodup_append.mpr ⟨n1, List.nodup_append.mpr ⟨hc, m2, fun a ha b hb e => ?_⟩, fun a ha b hb e => ?_⟩
  · subst e
    rcases hp a ha with z | z
    · exact m3 a z a hb rfl
    · exact z (List.mem_append_right _ (List.mem_append_right _ hb))
  · subst e
    rcases List.mem_append.mp hb with w | w
    · rcases hp a w with z | z
      · exact n3 a ha a (List.mem_append_left _ z) rfl
      · exact z (List.mem_append_left _ ha)
    · exact n3 a ha a (List.mem_append_right _ w) rfl
/-- a row of a matrix written anew, in a list of its own -/
theorem row_edit {H : Hp} {ms : List Nat} {ps : List (List Line)} {t : Addr} {as : List Addr} {i j : Nat} {rs : List Line} {r : Line} (ow : Own H (formD ms ps) (.ref t) as) (nd : as.Nodup) (hi : ps[i]? = some rs) (hj : rs[j]? = some r) :
    ∃ a b tp mm nn xs ls, H t = some (.tup [.ref a, .ref b]) ∧ H b = some (.lst xs) ∧ xs[i]? = some (.ref tp) ∧ H tp = some (.tup [.ref mm, .ref nn]) ∧ H mm = some (.lst ls) ∧ ls.length = rs.length ∧ H nn = some (.lst (IL (rs.map (·.am)))) ∧
      (∀ z ∈ [t, a, b, tp], z ∈ as ∧ z ≠ mm ∧ z ≠ nn) ∧ mm ∈ as ∧ nn ∈ as ∧ mm ≠ nn ∧
      ∀ (H' : Hp) (p : Addr) (is' ams' : List Int), H' mm = some (.lst (ls.set j (.ref p))) → H' p = some (.lst (IL is')) → H' nn = some (.lst (IL ams')) → ams'.length = rs.length → p ∉ as → (∀ z ∈ as, z ≠ mm → z ≠ nn → ∀ o, H z = some o → H' z = some o) →
        ∃ as', Own H' (formD ms (ps.set i (edited rs j is' ams'))) (.ref t) as' ∧ as'.Nodup ∧ ∀ z ∈ as', z ∈ as ∨ z = p := by
  obtain ⟨t', a, b, xs, cs, et, ht, ha, hb, ob, ebs⟩ := own_form_in ow
  obtain rfl := V.ref.inj et
  rw [ebs] at nd
  obtain ⟨nt, nd1⟩ := List.nodup_cons.mp nd
  obtain ⟨na, nd2, nab⟩ := List.nodup_append.mp nd1
  rw [List.append_nil] at nd2
  obtain ⟨nb, ncs⟩ := List.nodup_cons.mp nd2
  obtain ⟨x, c, pre, post, hx, ox, ecs, ed⟩ := OwnAll.edit2 (i := i) ob ncs (show (ps.map pieceD)[i]? = some (pieceD rs) by rw [List.getElem?_map, hi]; rfl)
  obtain ⟨tp, us, bs, rfl, htp, ⟨w1, us1, b1, c1, rfl, ⟨mm, ls, lcs, rfl, hm, ol, rfl⟩, ⟨w2, us2, b2, c2, rfl, ⟨nn, ys2, d2, rfl, hn, on, rfl⟩, ⟨rfl, rfl⟩, rfl⟩, rfl⟩, rfl⟩ := ox
  obtain ⟨rfl, rfl⟩ := ints_own on
  rw [List.append_nil] at ecs
  have ncs0 := ncs
  rw [ecs] at ncs
  obtain ⟨np1, np2, np3⟩ := List.nodup_append.mp ncs
  obtain ⟨nc, npost, ncp⟩ := List.nodup_append.mp np2
  obtain ⟨ntp, nc1⟩ := List.nodup_cons.mp nc
  obtain ⟨nml, nn1, nmn⟩ := List.nodup_append.mp nc1
  obtain ⟨nm, nls⟩ := List.nodup_cons.mp nml
  have erows : (rs.map fun r : Line => PyData.list (r.is.map PyData.int)) = (rs.map (·.is)).map stD := by
    rw [List.map_map]
    rfl
  have ol' : OwnAll H ((rs.map (·.is)).map stD) ls lcs := by rw [← erows]; exact ol
  obtain ⟨y, lc, lpre, lpost, hy, oy, elcs, edl⟩ := OwnAll.edit2 (i := j) ol' nls (show ((rs.map (·.is)).map stD)[j]? = some (stD r.is) by rw [List.getElem?_map, List.getElem?_map, hj]; rfl)
  obtain ⟨la, rfl, hla, rfl⟩ := own_st oy
  have lsl : ls.length = rs.length := by have := ol'.len; rwa [List.length_map, List.length_map] at this
  have inC : ∀ z ∈ tp :: ((mm :: lcs) ++ [nn]), z ∈ cs := fun z hz => by rw [ecs]; exact List.mem_append_right _ (List.mem_append_left _ hz)
  have inA : ∀ z ∈ cs, z ∈ as := fun z hz => by rw [ebs]; simp [hz]
  have mmC : mm ∈ tp :: ((mm :: lcs) ++ [nn]) := by simp
  have nnC : nn ∈ tp :: ((mm :: lcs) ++ [nn]) := by simp
  have mmnn : mm ≠ nn := fun e => nmn mm List.mem_cons_self nn (by simp) e
  have notC : ∀ z, (z = t ∨ z = a ∨ z = b) → z ∉ cs := fun z hz w => by
    rcases hz with rfl | rfl | rfl
    · exact nt (by simp [w])
    · exact nab z (by simp) z (by simp [w]) rfl
    · exact nb w
  refine ⟨a, b, tp, mm, nn, xs, ls, ht, hb, hx, htp, hm, lsl, hn, fun z hz => ?_, inA _ (inC _ mmC), inA _ (inC _ nnC), mmnn, fun H' p is' ams' e1 e2 e3 al pn fr => ?_⟩
  · simp only [List.mem_cons, List.not_mem_nil, or_false] at hz
    rcases hz with rfl | rfl | rfl | rfl
    · exact ⟨by rw [ebs]; simp, fun e => notC z (.inl rfl) (e ▸ inC _ mmC), fun e => notC z (.inl rfl) (e ▸ inC _ nnC)⟩
    · exact ⟨by rw [ebs]; simp, fun e => notC z (.inr (.inl rfl)) (e ▸ inC _ mmC), fun e => notC z (.inr (.inl rfl)) (e ▸ inC _ nnC)⟩
    · exact ⟨by rw [ebs]; simp, fun e => notC z (.inr (.inr rfl)) (e ▸ inC _ mmC), fun e => notC z (.inr (.inr rfl)) (e ▸ inC _ nnC)⟩
    · exact ⟨inA _ (inC _ (by simp)), fun e => ntp (by rw [e]; simp), fun e => ntp (by rw [e]; simp)⟩
  · have tpm : tp ≠ mm := fun e => ntp (by rw [e]; simp)
    have tpn : tp ≠ nn := fun e => ntp (by rw [e]; simp)
    have rows' : OwnAll H' (((rs.map (·.is)).map stD).set j (stD is')) (ls.set j (.ref p)) (lpre ++ ([p] ++ lpost)) := edl H' (stD is') (.ref p) [p] (fun z hz nz o e => fr z (inA _ (inC _ (by simp [hz]))) (fun w => nm (w ▸ hz)) (fun w => nmn z (List.mem_cons_of_mem _ hz) nn (by simp) w) o e) (st_own e2)
    have lz : ((rs.map (·.is)).set j is').length = ams'.length := by rw [List.length_set, List.length_map, al]
    have pz := pieceD_zip lz
    have rows2 : OwnAll H' (((rs.map (·.is)).set j is').map stD) (ls.set j (.ref p)) (lpre ++ ([p] ++ lpost)) := by
      rw [List.map_set]
      exact rows'
    have own1 : Own H' (pieceD (edited rs j is' ams')) (.ref tp) (tp :: ((mm :: (lpre ++ ([p] ++ lpost))) ++ ([nn] ++ []))) := by
      unfold edited
      rw [pz]
      exact ⟨tp, _, _, rfl, fr tp (inA _ (inC _ (by simp))) tpm tpn _ htp, ⟨_, _, mm :: (lpre ++ ([p] ++ lpost)), _, rfl, ⟨mm, _, _, rfl, e1, rows2, rfl⟩, ⟨_, _, [nn], [], rfl, ⟨nn, _, [], rfl, e3, own_ints _, rfl⟩, ⟨rfl, rfl⟩, rfl⟩, rfl⟩, rfl⟩
    have all2 := ed H' (pieceD (edited rs j is' ams')) (.ref tp) _ (fun z hz nz o e => fr z (inA _ hz) (fun w => nz (w ▸ mmC)) (fun w => nz (w ▸ nnC)) o e) own1
    have exs : xs.set i (.ref tp) = xs := by
      obtain ⟨il, ei⟩ := List.getElem?_eq_some_iff.mp hx
      rw [← ei]
      exact List.set_getElem_self il
    rw [exs, ← List.map_set] at all2
    have hb' := fr b (by rw [ebs]; simp) (fun e => notC b (.inr (.inr rfl)) (e ▸ inC _ mmC)) (fun e => notC b (.inr (.inr rfl)) (e ▸ inC _ nnC)) _ hb
    have ha' := fr a (by rw [ebs]; simp) (fun e => notC a (.inr (.inl rfl)) (e ▸ inC _ mmC)) (fun e => notC a (.inr (.inl rfl)) (e ▸ inC _ nnC)) _ ha
    have ht' := fr t (by rw [ebs]; simp) (fun e => notC t (.inl rfl) (e ▸ inC _ mmC)) (fun e => notC t (.inl rfl) (e ▸ inC _ nnC)) _ ht
    have inL : ∀ z ∈ lpre ++ ([p] ++ lpost), z ∈ lcs ∨ z = p := fun z hz => by
      rw [elcs]
      rcases List.mem_append.mp hz with w | w
      · exact .inl (List.mem_append_left _ w)
      · rcases List.mem_append.mp w with w | w
        · exact .inr (List.mem_singleton.mp w)
        · exact .inl (List.mem_append_right _ (List.mem_append_right _ w))
    have pl : p ∉ lcs := fun z => pn (inA _ (inC _ (by simp [z])))
    have ndl : (lpre ++ ([p] ++ lpost)).Nodup := by
      rw [elcs] at nls pl
      exact nodup_swap nls (by simp) fun z hz => .inr (by rw [List.mem_singleton.mp hz]; exact pl)
    have inN : ∀ z ∈ pre ++ ((tp :: ((mm :: (lpre ++ ([p] ++ lpost))) ++ ([nn] ++ []))) ++ post), z ∈ cs ∨ z = p := fun z hz => by
      rw [ecs]
      rcases List.mem_append.mp hz with w | w
      · exact .inl (by simp [w])
      · rcases List.mem_append.mp w with w | w
        · rcases List.mem_cons.mp w with w | w
          · exact .inl (by rw [w]; simp)
          · rcases List.mem_append.mp w with w | w
            · rcases List.mem_cons.mp w with w | w
              · exact .inl (by rw [w]; simp)
              · rcases inL _ w with w | w
                · exact .inl (by simp [w])
                · exact .inr w
            · exact .inl (by rw [List.append_nil] at w; rw [List.mem_singleton.mp w]; simp)
        · exact .inl (by simp [w])
    refine ⟨_, form_own ht' ha' hb' all2, ?_, fun z hz => ?_⟩
    · have ndc : (tp :: ((mm :: (lpre ++ ([p] ++ lpost))) ++ ([nn] ++ []))).Nodup := by
        have pt : p ≠ tp := fun e => pn (e ▸ inA _ (inC _ (by simp)))
        have pm : p ≠ mm := fun e => pn (e ▸ inA _ (inC _ mmC))
        have pnn : p ≠ nn := fun e => pn (e ▸ inA _ (inC _ nnC))
        refine List.nodup_cons.mpr ⟨fun z => ?_, List.nodup_append.mpr ⟨List.nodup_cons.mpr ⟨fun z => ?_, ndl⟩, by simp, fun x hx y hy e => ?_⟩⟩
        · rcases List.mem_append.mp z with w | w
          · rcases List.mem_cons.mp w with w | w
            · exact tpm w
            · rcases inL _ w with w | w
              · exact ntp (by simp [w])
              · exact pt w.symm
          · rw [List.append_nil, List.mem_singleton] at w
            exact tpn w
        · rcases inL _ z with w | w
          · exact nm w
          · exact pm w.symm
        · rw [List.append_nil, List.mem_singleton] at hy
          rcases List.mem_cons.mp hx with w | w
          · exact mmnn (w.symm.trans (e.trans hy))
          · rcases inL _ w with w | w
            · exact nmn x (List.mem_cons_of_mem _ w) y (by rw [hy]; simp) e
            · exact pnn (w.symm.trans (e.trans hy))
      have ncs2 : (pre ++ ((tp :: ((mm :: (lpre ++ ([p] ++ lpost))) ++ ([nn] ++ []))) ++ post)).Nodup := nodup_swap ncs ndc fun z hz => by
        rcases List.mem_cons.mp hz with w | w
        · exact .inl (by rw [w]; simp)
        · rcases List.mem_append.mp w with w | w
          · rcases List.mem_cons.mp w with w | w
            · exact .inl (by rw [w]; simp)
            · rcases inL _ w with w | w
              · exact .inl (by simp [w])
              · refine .inr (fun q => ?_)
                rw [w, ← ecs] at q
                exact pn (inA _ q)
          · exact .inl (by rw [List.append_nil] at w; rw [List.mem_singleton.mp w]; simp)
      have pt : p ≠ t := fun e => pn (by rw [e, ebs]; simp)
      have pa : p ≠ a := fun e => pn (by rw [e, ebs]; simp)
      have pb : p ≠ b := fun e => pn (by rw [e, ebs]; simp)
      have out : ∀ z, (z = t ∨ z = a ∨ z = b) → z ∉ pre ++ ((tp :: ((mm :: (lpre ++ ([p] ++ lpost))) ++ ([nn] ++ []))) ++ post) := fun z hz w => by
        rcases inN z w with w | w
        · exact notC z hz w
        · rcases hz with e | e | e
          · exact pt (w.symm.trans e)
          · exact pa (w.symm.trans e)
          · exact pb (w.symm.trans e)
      have ta : t ≠ a := fun e => nt (by rw [e]; simp)
      have tb : t ≠ b := fun e => nt (by rw [e]; simp)
      have ab : a ≠ b := fun e => nab a (by simp) b (by simp) e
      refine List.nodup_cons.mpr ⟨fun z => ?_, List.nodup_append.mpr ⟨by simp, ?_, fun x hx y hy e => ?_⟩⟩
      · rcases List.mem_append.mp z with w | w
        · exact ta (List.mem_singleton.mp w)
        · rw [List.append_nil] at w
          rcases List.mem_cons.mp w with w | w
          · exact tb w
          · exact out t (.inl rfl) w
      · rw [List.append_nil]
        exact List.nodup_cons.mpr ⟨out b (.inr (.inr rfl)), ncs2⟩
      · rw [List.mem_singleton.mp hx] at e
        rw [List.append_nil] at hy
        rcases List.mem_cons.mp hy with w | w
        · exact ab (e.trans w)
        · exact out a (.inr (.inl rfl)) (e ▸ w)
    · rw [ebs]
      rcases List.mem_cons.mp hz with w | w
      · exact .inl (by rw [w]; simp)
      · rcases List.mem_append.mp w with w | w
        · exact .inl (by rw [List.mem_singleton.mp w]; simp)
        · rw [List.append_nil] at w
          rcases List.mem_cons.mp w with w | w
          · exact .inl (by rw [w]; simp)
          · rcases inN z w with w | w
            · exact .inl (by simp [w])
            · exact .inr w
end K09

set_option Elab.async false
set_option linter.all false
set_option maxRecDepth 100000
set_option maxHeartbeats 4000000
set_option exponentiation.threshold 5000
namespace K09
open PySem L2 DL PySem.HouseX CM
def gOne {α : Type} : List α → List α → List α
  | [], [a] => [a]
  | _, _ => []
def gSw {α : Type} : List α → List α → List α
  | [], [a, b] => [b, a]
  | _, _ => []
def gRev {α : Type} : List α → List α → List α
  | [], [a, b, c] => [c, b, a]
  | _, _ => []
theorem fit_ints {ns : List Int} (h : ∀ x ∈ ns, x.natAbs < 10 ^ 38) : FitAll (ns.map PyData.int) := fitAll_iff.mpr fun d hd => by
  obtain ⟨x, hx, rfl⟩ := List.mem_map.mp hd
  exact h x hx
theorem fit_fk {n c : Nat} {ms : List Nat} {ps : List (List Line)} (O : FK n c ms ps) : Fit (formD ms ps) := by
  refine ⟨fit_ints fun x hx => ?_, ?_, trivial⟩
  · obtain ⟨m, hm, rfl⟩ := List.mem_map.mp hx
    have : m ≤ 600 := by
      obtain ⟨i, hi⟩ := List.mem_iff_getElem?.mp hm
      have il := (List.getElem?_eq_some_iff.mp hi).1
      have v2 := vol_take O.pos (i + 1)
      rw [vol_snoc il] at v2
      have p0 := FM.vol_pos (ms := ms.take i) fun z hz => O.pos z (List.mem_of_mem_take hz)
      have e : ms.getD i 0 = m := by rw [List.getD_eq_getElem?_getD, hi]; rfl
      rw [e] at v2
      exact Nat.le_trans (Nat.le_trans (Nat.le_mul_of_pos_left _ p0) v2) O.vol
    omega
  · show FitAll (ps.map pieceD)
    refine fitAll_iff.mpr fun d hd => ?_
    obtain ⟨rs, hrs, rfl⟩ := List.mem_map.mp hd
    refine ⟨?_, fit_ints fun x hx => ?_, trivial⟩
    · show FitAll _
      refine fitAll_iff.mpr fun d hd => ?_
      obtain ⟨r, hr, rfl⟩ := List.mem_map.mp hd
      exact fit_ints fun x hx => Nat.lt_of_le_of_lt (O.sml rs hrs r hr x hx) (by decide)
    · obtain ⟨r, hr, rfl⟩ := List.mem_map.mp hx
      exact Nat.lt_of_le_of_lt (O.ams rs hrs r hr) (by decide)
theorem dd_mem {xs : List (List (List Int))} {m : List (List Int)} (h : m ∈ dd xs) : m ∈ xs := by
  have g : ∀ (xs acc : List (List (List Int))), m ∈ xs.foldl (fun acc m => if m ∈ acc then acc else acc ++ [m]) acc → m ∈ acc ∨ m ∈ xs := fun xs => by
    induction xs with
    | nil => intro acc h; exact .inl h
    | cons y xs ih =>
      intro acc h
      rw [List.foldl_cons] at h
      rcases ih _ h with z | z
      · split at z
        · exact .inl z
        · rcases List.mem_append.mp z with w | w
          · exact .inl w
          · exact .inr (by rw [List.mem_singleton.mp w]; exact List.mem_cons_self)
      · exact .inr (List.mem_cons_of_mem _ z)
  rcases g xs [] h with z | z
  · cases z
  · exact z
theorem dd_small {n c : Nat} {ms : List Nat} {ps : List (List Line)} (O : FK n c ms ps) : nodes (.list ((dd (mats ps)).map matI)) ≤ 80000 ∧ Fit (.list ((dd (mats ps)).map matI)) ∧ (PyData.list ((dd (mats ps)).map matI)).depth ≤ 6 := by
  have n4 := O.n4
  have c4 := O.c4
  have vv := O.vol
  have pl := O.pl
  have src : ∀ m ∈ dd (mats ps), ∃ rs ∈ ps, m = rs.map (·.is) := fun m hm => by
    obtain ⟨rs, hrs, e⟩ := List.mem_map.mp (dd_mem hm)
    exact ⟨rs, hrs, e.symm⟩
  have len : (dd (mats ps)).length ≤ 600 := by
    have := dd_len (mats ps)
    unfold mats at this
    rw [List.length_map] at this
    unfold mats
    omega
  refine ⟨?_, ?_, ?_⟩
  · have a := nodesAll_le (ds := (dd (mats ps)).map matI) (n := 30) fun d hd => by
      obtain ⟨m, hm, rfl⟩ := List.mem_map.mp hd
      obtain ⟨rs, hrs, rfl⟩ := src m hm
      obtain ⟨w1, w2⟩ := O.wid rs hrs
      have a := nodesAll_le (ds := (rs.map (·.is)).map stD) (n := 5) fun d hd => by
        obtain ⟨z, hz, rfl⟩ := List.mem_map.mp hd
        obtain ⟨r, hr, rfl⟩ := List.mem_map.mp hz
        have := ints_nodes2 r.is
        have := w1 r hr
        simp only [stD, nodes]
        omega
      rw [List.length_map, List.length_map] at a
      simp only [matI, nodes]
      omega
    rw [List.length_map] at a
    simp only [nodes]
    omega
  · show FitAll _
    refine fitAll_iff.mpr fun d hd => ?_
    obtain ⟨m, hm, rfl⟩ := List.mem_map.mp hd
    obtain ⟨rs, hrs, rfl⟩ := src m hm
    show FitAll _
    refine fitAll_iff.mpr fun d hd => ?_
    obtain ⟨z, hz, rfl⟩ := List.mem_map.mp hd
    obtain ⟨r, hr, rfl⟩ := List.mem_map.mp hz
    exact fit_ints fun x hx => Nat.lt_of_le_of_lt (O.sml rs hrs r hr x hx) (by decide)
  · have h : PyData.depthAll ((dd (mats ps)).map matI) ≤ 2 := depthAll_le.mpr fun d hd => by
      obtain ⟨m, _, rfl⟩ := List.mem_map.mp hd
      exact mat_depth m
    simp only [PyData.depth]
    omega
/-- an edited row of a right form is right -/
theorem FK.row {n c : Nat} {ms : List Nat} {ps : List (List Line)} (O : FK n c ms ps) {i j : Nat} {rs : List Line} (rsm : rs ∈ ps) (jc : j < c) {g : Int} (hg : g.natAbs ≤ 100) : FK n c ms (ps.set i (edited rs j (List.replicate n 0) ((rs.map (·.am)).set j g))) := by
  refine O.edit rsm (by simp) (by rw [List.length_set, List.length_map]) (fun x hx => by rw [List.eq_of_mem_replicate hx]; decide) fun x hx => ?_
  rcases List.mem_or_eq_of_mem_set hx with e | e
  · obtain ⟨s, hs, e⟩ := List.mem_map.mp e
    rw [← e]
    exact O.ams rs rsm s hs
  · rw [e]; exact hg
end K09

set_option Elab.async false
set_option linter.all false
set_option maxRecDepth 100000
set_option maxHeartbeats 4000000
set_option exponentiation.threshold 5000
namespace K09
open PySem L2 DL PySem.HouseX CM
def spHR : Sp := fun vs H Q _ => ∃ (sk : Addr) (k : Nat), vs = [.ref sk] ∧ SackAt H sk k ∧ k ≤ 700000000 ∧ ∀ H', Fr sk H H' → Q (.bl true) H'
structure TxtU (mg : Str → Option Value) (fP fD fC fSm fMa fLe fPl fH fHo : Addr) : Prop where
  range : mg "range" = none
  repr : mg "repr" = none
  gP : mg "_law_hd_pick" = some (.ref fP)
  gD : mg "_law_hd_drawn_form" = some (.ref fD)
  gC : mg "_law_hd_copy" = some (.ref fC)
  gSm : mg "_law_hd_same" = some (.ref fSm)
  gMa : mg "matrices" = some (.ref fMa)
  gLe : mg "_law_hd_least" = some (.ref fLe)
  gPl : mg "is_plain" = some (.ref fPl)
  gH : mg "_law_hd_hangs" = some (.ref fH)
  gHo : mg "hangs_on" = some (.ref fHo)
section
variable {P : Program} {w : World} {K : PySem.W.Frag} {mg : Str → Option Value} {base : Heap}
theorem scHR : FnScope ["_law_sack", "_law_many", "_law_results", "_law_form", "_law_matrix", "_law_more", "_law_result", "_law_rank", "_law_given", "_law_stock", "_law_is_alone", "_law_modulus_here", "_law_owed"] ["_law_sack"] (defScope sLHangsR) := ⟨rfl, rfl, rfl, by decide +kernel, rfl, by decide +kernel, by decide +kernel⟩
theorem ok_hr {f fP fD fC fSm fMa fLe fPl fH fHo : Addr} {fd fdP fdD fdC fdSm fdMa fdLe fdPl fdH fdHo : FuncData} (F : Fun K "_law_hd_hangs_right" "_law_hd_hangs_right" sLHangsR f fd) (T : TxtU mg fP fD fC fSm fMa fLe fPl fH fHo)
    (GP : FnOk P w K mg base CX0 1 fP fdP ["_law_sack", "_law_many"] spPick) (kP : PySem.W.keepIn K (.ref fP) = true) (bP : Binds K fdP ["_law_sack", "_law_many"] [])
    (GD : FnOk P w K mg base CX0 5 fD fdD ["_law_sack", "_law_many", "_law_results", "_law_most"] spDrawnF) (kD : PySem.W.keepIn K (.ref fD) = true) (bD : Binds K fdD ["_law_sack", "_law_many", "_law_results", "_law_most"] [])
    (GC : FnOk P w K mg base CX0 6 fC fdC ["_law_thing"] (spCopy 5)) (kC : PySem.W.keepIn K (.ref fC) = true) (bC : Binds K fdC ["_law_thing"] [])
    (GS : FnG P w K mg base 8 fSm fdSm ["_law_answer", "_law_due"] (spSame 6)) (kS : PySem.W.keepIn K (.ref fSm) = true) (bS : Binds K fdSm ["_law_answer", "_law_due"] [])
    (GM : FnOk P w K mg base CX0 5 fMa fdMa ["form"] spMats) (kM : PySem.W.keepIn K (.ref fMa) = true) (bM : Binds K fdMa ["form"] []) (sM : KBinds K fdMa ["form"] ["form"] gOne gOne)
    (GL : FnOk P w K mg base CX0 7 fLe fdLe ["_law_form"] spLLeast) (kL : PySem.W.keepIn K (.ref fLe) = true) (bL : Binds K fdLe ["_law_form"] [])
    (GI : FnOk P w K mg base CX0 4 fPl fdPl ["form"] (spPlain K)) (kI : PySem.W.keepIn K (.ref fPl) = true) (bI : Binds K fdPl ["form"] []) (sI : KBinds K fdPl ["form"] ["form"] gOne gOne)
    (GH : FnOk P w K mg base CX0 3 fH fdH ["_law_form", "_law_result", "_law_rank"] (spLHangs K)) (kH : PySem.W.keepIn K (.ref fH) = true) (bH : Binds K fdH ["_law_form", "_law_result", "_law_rank"] [])
    (GO : FnOk P w K mg base CX0 4 fHo fdHo ["form", "result", "account"] (spHangsOn K)) (kO : PySem.W.keepIn K (.ref fHo) = true) (bO : Binds K fdHo ["form", "result", "account"] []) (sO : KBinds K fdHo ["form", "result", "account"] ["account", "result", "form"] gRev gRev) : FnG P w K mg base 9 f fd ["_law_sack"] spHR := by
  have nd := scHR.nd
  refine F.okG scHR (fun vs H Q E h => ?_) (fun cdv A outer s H vs Q E hgd hr h => ?_)
  · obtain ⟨_, _, rfl, _⟩ := h
    rfl
  · obtain ⟨sk, k, rfl, hsk, kb, q⟩ := h
    have hu : (A.deeper (PyProof.Rows.envOfC "_law_hd_hangs_right" (defScope sLHangsR) s.heap.objs.size f cdv)).units + 65 < cLine := by
      have := hr.un
      omega
    have hr1 : Room 1 _ := hr.mono (by decide)
    have hr3 : Room 3 _ := hr.mono (by decide)
    have hr4 : Room 4 _ := hr.mono (by decide)
    have hr5 : Room 5 _ := hr.mono (by decide)
    have hr6 : Room 6 _ := hr.mono (by decide)
    have hr7 : Room 7 _ := hr.mono (by decide)
    refine ⟨_, pss_cons (ps_par (i := 1) (j := 2) (by rfl) nd rfl rfl (by decide) rfl rfl (pa_cons (pe_ix ix_list (pe_lst (pa_cons pe_int (pa_cons pe_int (pa_cons pe_int (pa_cons pe_int (pa_cons pe_int (pa_cons pe_int pa_nil))))))) (pe_call GP hr1 rfl T.gP kP bP .nil pass0 (pa_cons (pv 0) (pa_cons pe_int pa_nil))) (fun _ _ => rfl))
        (pa_cons (pe_ix ix_list (pe_lst (pa_cons pe_int (pa_cons pe_int (pa_cons pe_int (pa_cons pe_int pa_nil))))) (pe_call GP hr1 rfl T.gP kP bP .nil pass0 (pa_cons (pv 0) (pa_cons pe_int pa_nil))) (fun _ _ => rfl)) pa_nil)) (by rfl))
      (pss_cons (ps_set (i := 3) nd rfl (Or.inl rfl) (pe_call GD hr5 rfl T.gD kD bD .nil pass0 (pa_cons (pv 0) (pa_cons (pv 1) (pa_cons (pv 2) (pa_cons pe_int pa_nil))))))
      (pss_cons (ps_for PassesOwn.never rfl (pi_list (pe_ix ix_tup (pv 3) pe_int (fun _ _ => rfl))) (pg_tup rfl (pgs_cons (pg_name (i := 4) nd rfl (Or.inl rfl)) (pgs_cons (pg_name (i := 5) nd rfl (Or.inl rfl)) pgs_nil)))
        (pss_one (ps_if (pt_cmpR op_eq (pe_call GP hr1 rfl T.gP kP bP .nil pass0 (pa_cons (pv 0) (pa_cons pe_int pa_nil))) pe_int (nomark _))
          (pss_cons (ps_set (i := 6) nd rfl (Or.inl rfl) (pe_call GP hr1 rfl T.gP kP bP .nil pass0 (pa_cons (pv 0) (pa_cons (pv 2) pa_nil))))
          (pss_cons (ps_asg (pe_lc (own := [("_law_rank", 7)]) (g := gName 7) rfl nd (pi_range1 (by rfl) T.range (pa_cons (pv 1) pa_nil))
            (blkOk_by (N := ["_law_sack", "_law_many", "_law_results", "_law_form", "_law_matrix", "_law_more", "_law_result", "_law_rank", "_law_given", "_law_stock", "_law_is_alone", "_law_modulus_here", "_law_owed"]) (sc := defScope sLHangsR) (by decide +kernel)) (fun _ _ _ _ _ => pg_name (i := 7) nd rfl (Or.inl rfl)) (fun _ _ _ _ _ => pts_nil) (fun _ _ _ _ _ => pe_int)) (pg_sub (pv 4) (pv 6) set_list))
          (pss_one (ps_asg (pe_call GP hr1 rfl T.gP kP bP .nil pass0 (pa_cons (pv 0) (pa_cons pe_int pa_nil))) (pg_sub (pv 5) (pv 6) set_list))))) pss_nil)))
      (pss_cons (ps_par (i := 8) (j := 9) (by rfl) nd rfl rfl (by decide) rfl rfl (pa_cons (pe_call GC hr6 rfl T.gC kC bC .nil pass0 (pa_cons (pv 3) pa_nil)) (pa_cons (pe_lst pa_nil) pa_nil)) (by rfl))
      (pss_cons (ps_for PassesOwn.never rfl (pi_list (pe_ix ix_tup (pv 3) pe_int (fun _ _ => rfl))) (pg_tup rfl (pgs_cons (pg_name (i := 4) nd rfl (Or.inl rfl)) (pgs_cons (pg_name (i := 5) nd rfl (Or.inl rfl)) pgs_nil)))
        (pss_one (ps_if (pt_cmpR (op_notInD hr.units) (pv 4) (pv 9) (by rfl)) (pss_one (ps_expr (pe_bm PySem.F.plainAttrs_list PySem.F.slot_list_append PySem.F.type_list_append mt_append (pv 9) (pa_cons (pv 4) pa_nil)))) pss_nil)))
      (pss_cons (ps_if (PW.pt (pw_or (pt_not (pt_val (pe_callG GS hgd hr rfl T.gSm kS bS (pa_cons (pe_call GM hr5 rfl T.gMa kM bM .nil pass0 (pa_cons (pv 8) pa_nil)) (pa_cons (pv 9) pa_nil)))))
        (pw_or1 (pt_not (pt_val (pe_callG GS hgd hr rfl T.gSm kS bS (pa_cons (pe_callKS (E := fun _ => E0) GM hr5 rfl T.gMa kM sM (fun _ _ _ _ _ _ _ h => h.elim) (pk_cons (pv 8) pk_nil)) (pa_cons (pv 9) pa_nil)))))))) (pss_one (ps_ret pe_bl)) pss_nil)
      (pss_cons (ps_set (i := 10) nd rfl (Or.inl rfl) (pe_cmpR (op_eqD hr.units) (pe_lc (own := [("_law_modulus_here", 11)]) (g := gName 11) rfl nd (pi_list (pe_ix ix_tup (pe_call GL hr7 rfl T.gLe kL bL .nil pass0 (pa_cons (pv 3) pa_nil)) pe_int (fun _ _ => rfl)))
            (blkOk_by (N := ["_law_sack", "_law_many", "_law_results", "_law_form", "_law_matrix", "_law_more", "_law_result", "_law_rank", "_law_given", "_law_stock", "_law_is_alone", "_law_modulus_here", "_law_owed"]) (sc := defScope sLHangsR) (by decide +kernel)) (fun _ _ _ _ _ => pg_name (i := 11) nd rfl (Or.inl rfl)) (fun _ _ _ _ _ => pts_one (pt_cmpR op_gt (pv 11) pe_int (nomark _))) (fun _ _ _ _ _ => pv 11)) (pe_lst pa_nil) (nomark _)))
      (pss_cons (ps_if (pt_cmpR op_ne (pe_callB (call_repr hgd hu) (by rfl) T.repr (by decide +kernel) (pa_cons (pe_lst (pa_cons (pe_call GI hr4 rfl T.gPl kI bI .nil pass0 (pa_cons (pv 8) pa_nil)) (pa_cons (pe_callKS (E := fun _ => E0) GI hr4 rfl T.gPl kI sI (fun _ _ _ _ _ _ _ h => h.elim) (pk_cons (pv 8) pk_nil)) pa_nil))) pa_nil))
        (pe_callB (call_repr hgd hu) (by rfl) T.repr (by decide +kernel) (pa_cons (pe_lst (pa_cons (pv 10) (pa_cons (pv 10) pa_nil))) pa_nil)) (nomark _)) (pss_one (ps_ret pe_bl)) pss_nil)
      (pss_cons (ps_for PassesOwn.never rfl (pi_range1 (by rfl) T.range (pa_cons (pv 2) pa_nil)) (pg_name (i := 6) nd rfl (Or.inl rfl))
        (pss_one (ps_for PassesOwn.never rfl (pi_range1 (by rfl) T.range (pa_cons (pv 1) pa_nil)) (pg_name (i := 7) nd rfl (Or.inl rfl))
          (pss_cons (ps_set (i := 12) nd rfl (Or.inl rfl) (pe_call GH hr3 rfl T.gH kH bH .nil pass0 (pa_cons (pv 3) (pa_cons (pv 6) (pa_cons (pv 7) pa_nil)))))
          (pss_cons (ps_if (pt_cmpR op_ne (pe_callB (call_repr hgd hu) (by rfl) T.repr (by decide +kernel) (pa_cons (pe_call GO hr4 rfl T.gHo kO bO .nil pass0 (pa_cons (pv 8) (pa_cons (pv 6) (pa_cons (pv 7) pa_nil)))) pa_nil)) (pe_callB (call_repr hgd hu) (by rfl) T.repr (by decide +kernel) (pa_cons (pv 12) pa_nil)) (nomark _)) (pss_one (ps_ret pe_bl)) pss_nil)
          (pss_one (ps_if (pt_cmpR op_ne (pe_callB (call_repr hgd hu) (by rfl) T.repr (by decide +kernel) (pa_cons (pe_callKS (E := fun _ => E0) GO hr4 rfl T.gHo kO sO (fun _ _ _ _ _ _ _ h => h.elim) (pk_cons (pv 7) (pk_cons (pv 6) (pk_cons (pv 8) pk_nil)))) pa_nil)) (pe_callB (call_repr hgd hu) (by rfl) T.repr (by decide +kernel) (pa_cons (pv 12) pa_nil)) (nomark _)) (pss_one (ps_ret pe_bl)) pss_nil)))))))
      (pss_one (ps_ret (pe_cmpR op_eq (pe_callB (call_repr hgd hu) (by rfl) T.repr (by decide +kernel) (pa_cons (pv 8) pa_nil)) (pe_callB (call_repr hgd hu) (by rfl) T.repr (by decide +kernel) (pa_cons (pv 3) pa_nil)) (nomark _)))))))))))), ?_⟩
    refine ⟨(by show 6 ≤ sizeLine; decide), fun a0 h0 => ?_⟩
    have na0 := hsk.ne h0
    refine ⟨_, rfl, sk, k, 6, rfl, hsk.put na0, by omega, by decide, by decide, fun H1 z z0 z1 q1 s1 => ?_⟩
    have at0 : H1 a0 = some (.lst [V.int 1, V.int 2, V.int 3, V.int 2, V.int 3, V.int 4]) := (q1 a0 (Ne.symm na0)).trans upd_same
    obtain ⟨n, hn, n0, n4⟩ : ∃ n : Nat, atI [V.int 1, V.int 2, V.int 3, V.int 2, V.int 3, V.int 4] z = some (V.int (n : Nat)) ∧ 0 < n ∧ n ≤ 4 := by
      rcases (show z = 0 ∨ z = 1 ∨ z = 2 ∨ z = 3 ∨ z = 4 ∨ z = 5 by omega) with rfl | rfl | rfl | rfl | rfl | rfl
      · exact ⟨1, rfl, by decide, by decide⟩
      · exact ⟨2, rfl, by decide, by decide⟩
      · exact ⟨3, rfl, by decide, by decide⟩
      · exact ⟨2, rfl, by decide, by decide⟩
      · exact ⟨3, rfl, by decide, by decide⟩
      · exact ⟨4, rfl, by decide, by decide⟩
    have f1 : Fr sk H H1 := (Fr.refl.put h0).trans (Fr.of_eq q1)
    refine ⟨a0, _, _, _, rfl, rfl, SqL.of at0, hn, ?_⟩
    refine ⟨(by show 4 ≤ sizeLine; decide), fun b0 g0 => ?_⟩
    have nb0 := s1.ne g0
    refine ⟨_, rfl, sk, _, 4, rfl, s1.put nb0, by omega, by decide, by decide, fun H2 y y0 y1 q2 s2 => ?_⟩
    have bt0 : H2 b0 = some (.lst [V.int 1, V.int 2, V.int 3, V.int 4]) := (q2 b0 (Ne.symm nb0)).trans upd_same
    obtain ⟨c, hc, c0, c4⟩ : ∃ c : Nat, atI [V.int 1, V.int 2, V.int 3, V.int 4] y = some (V.int (c : Nat)) ∧ 0 < c ∧ c ≤ 4 := by
      rcases (show y = 0 ∨ y = 1 ∨ y = 2 ∨ y = 3 by omega) with rfl | rfl | rfl | rfl
      · exact ⟨1, rfl, by decide, by decide⟩
      · exact ⟨2, rfl, by decide, by decide⟩
      · exact ⟨3, rfl, by decide, by decide⟩
      · exact ⟨4, rfl, by decide, by decide⟩
    have f2 : Fr sk H H2 := f1.trans ((Fr.refl.put g0).trans (Fr.of_eq q2))
    refine ⟨b0, _, _, _, rfl, rfl, SqL.of bt0, hc, _, _, rfl, ?_⟩
    refine ⟨_, rfl, _, rfl, _, rfl, sk, _, n, c, 12, rfl, s2, by omega, n0, n4, c0, c4, by decide, by decide, fun H3 v as ms ps0 f3 s3 ow0 nw0 nd0 O0 vm ty => ?_⟩
    have f3' := f2.trans f3
    have out0 := s2.out nw0
    obtain ⟨t, a, b, xs, cs, rfl, ht, ha, hb, ho, eas⟩ := own_form_in ow0
    refine ⟨_, rfl, t, _, _, .ref b, rfl, rfl, SqT.of ht, rfl, b, rfl, ⟨_, SqL.of hb⟩, ?_⟩
    have xl : xs.length = ps0.length := by have := ho.len; rwa [List.length_map] at this
    obtain ⟨k0, hk0, s3⟩ : ∃ k0, k0 ≤ k + 3000 ∧ SackAt H3 sk k0 := ⟨_, by omega, s3⟩
    have pl0 : ps0.length ≤ 600 := by rw [O0.pl]; exact O0.vol
    refine for_list (K := K) (a := b) (xs := xs) (fun i σ H' => ∃ (ps : List (List Line)) (as' : List Addr) (kk : Nat) (x4 x5 x6 : Option V), σ = [some (.ref sk), some (.int (n : Nat)), some (.int (c : Nat)), some (.ref t), x4, x5, x6, none, none, none, none, none, none] ∧ Own H' (formD ms ps) (.ref t) as' ∧ as'.Nodup ∧ sk ∉ as' ∧ New H as' ∧ FK n c ms ps ∧ H' t = some (.tup [.ref a, .ref b]) ∧ H' b = some (.lst xs) ∧ Fr sk H H' ∧ SackAt H' sk kk ∧ kk ≤ k0 + 3 * i)
      ⟨ps0, as, k0, _, _, _, rfl, ow0, nd0, out0, f2.backs s2 nw0, O0, ht, hb, f3', s3, by omega⟩ (fun i σ H' _ ⟨_, _, _, _, _, _, _, _, _, _, _, _, _, hb, _⟩ => SqL.of hb) ?_ ?_
    · rintro i x σ H4 hx ⟨ps, as', kk, x4, x5, x6, rfl, ow, ndp, out, nwA, O, ht4, hb4, f4, s4, hkk⟩
      have il := (List.getElem?_eq_some_iff.mp hx).1
      have pl4 : ps.length = ps0.length := by rw [O.pl, O0.pl]
      obtain ⟨rs, hrs⟩ : ∃ rs, ps[i]? = some rs := ⟨_, List.getElem?_eq_getElem (by omega)⟩
      have rsm := List.mem_of_getElem? hrs
      obtain ⟨wr, wc⟩ := O.wid rs rsm
      obtain ⟨r0, hr0⟩ : ∃ r0, rs[0]? = some r0 := ⟨_, List.getElem?_eq_getElem (by omega)⟩
      obtain ⟨a4, b4, tp, mm, nn, xs4, ls, ht4', hb4', hxt, htp, hmm, lsl, hnn, oth, mA, nA, mn, _⟩ := row_edit ow ndp hrs hr0
      have eb4 : b4 = b := by
        rw [ht4] at ht4'
        have := HO.tup.inj (Option.some.inj ht4')
        simp only [List.cons.injEq, V.ref.injEq, and_true] at this
        exact this.2.symm
      subst eb4
      obtain rfl : xs4 = xs := by
        rw [hb4] at hb4'
        exact (HO.lst.inj (Option.some.inj hb4')).symm
      rw [hx] at hxt
      obtain rfl := Option.some.inj hxt
      refine ⟨tp, _, rfl, SqT.of htp, rfl, _, _, rfl, _, _, rfl, rfl, ?_⟩
      refine ⟨_, rfl, sk, _, 2, rfl, s4, by omega, by decide, by decide, fun H5 y y0 y1 q5 s5 => ⟨rfl, _, rfl, ite2 (fun h => ?_) (fun h => ?_)⟩⟩
      · have e5 : Fr sk H4 H5 := Fr.of_eq q5
        refine ⟨_, rfl, _, rfl, sk, _, (c : Nat), rfl, s5, by omega, by omega, by omega, fun H6 j j0 j1 q6 s6 => ?_⟩
        obtain ⟨j', rfl⟩ : ∃ j' : Nat, j = (j' : Int) := ⟨j.toNat, (Int.toNat_of_nonneg j0).symm⟩
        have e6 : Fr sk H4 H6 := e5.trans (Fr.of_eq q6)
        refine ⟨_, rfl, n, rfl, by omega, by omega, fun D hD => ?_⟩
        have nD := s6.ne hD
        refine lc_it (walk_range (lo := 0) (n := n)) (Made H6 D (fun _ => true) (fun _ => V.int 0)) (Made.start hD) (fun _ _ _ _ => trivial) ?_ ?_
        · rintro j x H7 H7' hj M ⟨rfl, rfl⟩
          exact ⟨rfl, M.yes hD (Same.refl _) rfl (by omega)⟩
        · intro H7 M
          have eD : H7 D = some (.lst (IL (List.replicate n 0))) := by
            rw [M.at_, made_all]
            unfold IL
            rw [List.map_replicate, List.map_const', List.length_range]
          have s7 := s6.same M.same
          have e7 : Fr sk H4 H7 := e6.trans (Fr.of_same M.same)
          clear M
          obtain ⟨r, hr⟩ : ∃ r, rs[j']? = some r := ⟨_, List.getElem?_eq_getElem (by omega)⟩
          obtain ⟨a6, b6, tp6, mm6, nn6, xs6, ls6, ht6, hb6, hx6, htp6, hmm6, lsl6, hnn6, oth6, mA6, nA6, mn6, ed⟩ := row_edit ow ndp hrs hr
          have eb6 : b6 = b4 := by
            rw [ht4] at ht6
            have := HO.tup.inj (Option.some.inj ht6)
            simp only [List.cons.injEq, V.ref.injEq, and_true] at this
            exact this.2.symm
          subst eb6
          obtain rfl : xs6 = xs4 := by
            rw [hb4] at hb6
            exact (HO.lst.inj (Option.some.inj hb6)).symm
          rw [hx] at hx6
          obtain rfl := V.ref.inj (Option.some.inj hx6)
          have emn : mm6 = mm ∧ nn6 = nn := by
            rw [htp] at htp6
            have := HO.tup.inj (Option.some.inj htp6)
            simp only [List.cons.injEq, V.ref.injEq, and_true] at this
            exact ⟨this.1.symm, this.2.symm⟩
          obtain ⟨rfl, rfl⟩ := emn
          obtain rfl : ls6 = ls := by
            rw [hmm] at hmm6
            exact (HO.lst.inj (Option.some.inj hmm6)).symm
          have nmm : mm6 ≠ sk := fun e => out (e ▸ mA)
          have nnn : nn6 ≠ sk := fun e => out (e ▸ nA)
          have DA : D ∉ as' := fun z => by
            obtain ⟨o, e⟩ := ow.has D z
            have := e6 D (fun w => out (w ▸ z)) o e
            rw [hD] at this
            cases this
          have Dm : D ≠ mm6 := fun e => DA (e ▸ mA)
          have Dn : D ≠ nn6 := fun e => DA (e ▸ nA)
          refine ⟨_, rfl, _, rfl, mm6, ls6, _, j', rfl, rfl, e7 _ nmm _ hmm, by rw [lsl6]; exact ixN_nat (by omega), ?_⟩
          have s8 : SackAt (upd H7 mm6 (.lst (ls6.set j' (.ref D)))) sk (kk + 1 + 1) := s7.put (Ne.symm nmm)
          have em8 : upd H7 mm6 (.lst (ls6.set j' (.ref D))) mm6 = some (.lst (ls6.set j' (.ref D))) := upd_same
          have eD8 : upd H7 mm6 (.lst (ls6.set j' (.ref D))) D = some (.lst (IL (List.replicate n 0))) := (upd_ne Dm).trans eD
          have e8 : ∀ b, b ≠ sk → b ≠ mm6 → ∀ o, H4 b = some o → upd H7 mm6 (.lst (ls6.set j' (.ref D))) b = some o := fun b h1 h2 o e => (upd_ne h2).trans (e7 b h1 o e)
          generalize upd H7 mm6 (.lst (ls6.set j' (.ref D))) = H8 at *
          refine ⟨_, rfl, sk, _, 2, rfl, s8, by omega, by decide, by decide, fun H9 g g0 g1 q9 s9 => ?_⟩
          have e9 := Fr.of_eq (p := sk) q9
          have lam : (IL (rs.map (·.am))).length = c := by unfold IL; rw [List.length_map, List.length_map, wc]
          refine ⟨_, rfl, _, rfl, nn6, IL (rs.map (·.am)), _, j', rfl, rfl, e9 _ nnn _ (e8 _ nnn (Ne.symm mn) _ hnn), by rw [lam]; exact ixN_nat (by omega), ?_⟩
          have en : upd H9 nn6 (.lst ((IL (rs.map (·.am))).set j' (V.int g))) nn6 = some (.lst (IL ((rs.map (·.am)).set j' g))) := by
            rw [upd_same]
            conv => rhs; unfold IL; rw [List.map_set]
            rfl
          have fr10 : ∀ z ∈ as', z ≠ mm6 → z ≠ nn6 → ∀ o, H4 z = some o → upd H9 nn6 (.lst ((IL (rs.map (·.am))).set j' (V.int g))) z = some o := fun z hz h1 h2 o e => (upd_ne h2).trans (e9 z (fun w => out (w ▸ hz)) o (e8 z (fun w => out (w ▸ hz)) h1 o e))
          obtain ⟨as2, ow2, nd2, sub2⟩ := ed _ D (List.replicate n 0) ((rs.map (·.am)).set j' g) ((upd_ne mn).trans (e9 _ nmm _ em8)) ((upd_ne Dn).trans (e9 _ (Ne.symm nD) _ eD8)) en (by rw [List.length_set, List.length_map]) DA fr10
          have tA := oth t (by simp)
          have bA := oth b6 (by simp)
          refine ⟨_, as2, kk + 3, _, _, _, rfl, ow2, nd2, fun z => ?_, fun z hz => ?_, O.row rsm (by omega) (by omega), fr10 t tA.1 tA.2.1 tA.2.2 _ ht4, fr10 b6 bA.1 bA.2.1 bA.2.2 _ hb4, fun z hz o e => ?_, ?_, by omega⟩
          · rcases sub2 sk z with w | w
            · exact out w
            · exact nD w
          · rcases sub2 z hz with w | w
            · exact nwA z w
            · rw [w]
              exact (f4.trans e6).back s6 hD
          · have nm : z ≠ mm6 := fun w => by
              have := nwA mm6 mA
              rw [← w, e] at this
              cases this
            have nn' : z ≠ nn6 := fun w => by
              have := nwA nn6 nA
              rw [← w, e] at this
              cases this
            exact (upd_ne nn').trans (e9 z hz o (e8 z hz nm o (f4 z hz o e)))
          · exact (s9.put (Ne.symm nnn)).le (by omega)
      · have e5 : Fr sk H4 H5 := Fr.of_eq q5
        have tA := oth t (by simp)
        have bA := oth b4 (by simp)
        exact ⟨ps, as', kk + 1, _, _, _, rfl, ow.fr out e5, ndp, out, nwA, O, e5 t (fun w => out (w ▸ tA.1)) _ ht4, e5 b4 (fun w => out (w ▸ bA.1)) _ hb4, f4.trans e5, s5, by omega⟩
    · rintro σ H4 ⟨ps, as', kk, x4, x5, x6, rfl, ow, ndp, out, nwA, O, ht4, hb4, f4, s4, hkk⟩
      obtain ⟨j2, j3, j4⟩ := dd_small O
      have szz : (10000000 : Nat) ≤ sizeLine := by decide
      refine ⟨_, rfl, formD ms ps, .ref t, as', rfl, ow, form_depth _ _, Nat.le_trans (fk_nodes O) (by decide), fun H5 v' bs sm5 og ng ndg => ⟨Nat.zero_le _, fun D hD => ⟨_, _, rfl, ?_⟩⟩⟩
      have zD := same_new (o := .lst []) hD
      have ow5 := ow.same sm5
      obtain ⟨t5, a5, b5, xs5, cs5, e5, ht5, ha5, hb5, ho5, eas5⟩ := own_form_in ow5
      obtain rfl := V.ref.inj e5
      refine ⟨_, rfl, t, _, _, .ref b5, rfl, rfl, SqT.of (zD _ _ ht5), rfl, b5, rfl, ⟨_, SqL.of (zD _ _ hb5)⟩, ?_⟩
      have xl5 : xs5.length = ps.length := by have := ho5.len; rwa [List.length_map] at this
      have ml5 : (mats ps).length = ps.length := List.length_map ..
      have pl5 : ps.length ≤ 600 := by rw [O.pl]; exact O.vol
      refine for_list (K := K) (a := b5) (xs := xs5) (fun i σ H' => ∃ (vs : List V) (cs' : List Addr) (x4 x5 : Option V), σ = [some (.ref sk), some (.int (n : Nat)), some (.int (c : Nat)), some (.ref t), x4, x5, x6, none, some v', some (.ref D), none, none, none] ∧ H' D = some (.lst vs) ∧ OwnAll H' ((dd ((mats ps).take i)).map matI) vs cs' ∧ D ∉ cs' ∧ Same H5 H')
        ⟨[], [], _, _, rfl, upd_same, ⟨rfl, rfl⟩, (fun z => nomatch z), zD⟩ (fun i σ H' _ ⟨_, _, _, _, _, _, _, _, sm⟩ => SqL.of (sm _ _ hb5)) ?_ ?_
      · rintro i x σ H6 hx ⟨vs, cs', x4, x5, rfl, hD6, own6, Dn, sm6⟩
        obtain ⟨d, b2, hd1, hd2, _⟩ := ho5.at hx
        rw [List.getElem?_map] at hd1
        obtain ⟨rs, er, rfl⟩ := Option.map_eq_some_iff.mp hd1
        have il := (List.getElem?_eq_some_iff.mp er).1
        obtain ⟨tp, us, cs2, rfl, htp, ⟨w1, us1, c1, c2, rfl, om, ⟨w2, us2, c3, c4', rfl, oa, ⟨rfl, rfl⟩, rfl⟩, rfl⟩, rfl⟩ := hd2
        have em : (mats ps)[i]? = some (rs.map (·.is)) := by
          unfold mats
          rw [List.getElem?_map, er]
          rfl
        have tk : dd ((mats ps).take (i + 1)) = if rs.map (·.is) ∈ dd ((mats ps).take i) then dd ((mats ps).take i) else dd ((mats ps).take i) ++ [rs.map (·.is)] := by
          rw [List.take_add_one, em]
          exact dd_snoc _ _
        rw [matD_matI] at om
        have om6 := om.same sm6
        have vl := own6.len
        rw [List.length_map] at vl
        have dl := dd_len ((mats ps).take i)
        have dl2 : ((mats ps).take i).length ≤ i := List.length_take_le ..
        refine ⟨tp, _, rfl, SqT.of (sm6 _ _ htp), rfl, _, _, rfl, _, _, rfl, rfl, ?_⟩
        refine ⟨_, rfl, _, rfl, matI (rs.map (·.is)), (dd ((mats ps).take i)).map matI, om6.dp, .lst (SqL.of hD6) own6.dp, mats_plain _, mat_plain _, Nat.le_trans (mat_depth _) (by decide), ?_⟩
        rw [mats_any]
        refine ⟨_, rfl, ite2 (fun h => ?_) (fun h => ?_)⟩
        · have hn : ¬ rs.map (·.is) ∈ dd ((mats ps).take i) := by simpa using h
          rw [if_neg hn] at tk
          have Dc : D ∉ c1 := om.not hD
          refine ⟨_, rfl, .inl ⟨rfl, _, SqL.of hD6⟩, _, rfl, D, vs, _, rfl, rfl, hD6, Nat.lt_of_le_of_lt (show vs.length ≤ 1000 by omega) (by decide), vs ++ [w1], cs' ++ c1, _, _, rfl, upd_same, ?_, fun z => ?_, fun b o e => ?_⟩
          · rw [tk, List.map_append]
            exact (own6.put Dn).snoc (om6.put Dc)
          · rcases List.mem_append.mp z with w | w
            · exact Dn w
            · exact Dc w
          · exact (upd_ne (ne_of_none e hD)).trans (sm6 b o e)
        · have hn : rs.map (·.is) ∈ dd ((mats ps).take i) := by simpa using h
          rw [if_pos hn] at tk
          refine ⟨vs, cs', _, _, rfl, hD6, ?_, Dn, sm6⟩
          rw [tk]
          exact own6
      · rintro σ H6 ⟨vs, cs', x4, x5, rfl, hD6, own6, Dn, sm6⟩
        rw [xl5, ← ml5, List.take_length] at own6
        have stk : Own H6 (.list ((dd (mats ps)).map matI)) (.ref D) (D :: cs') := ⟨D, vs, cs', rfl, hD6, own6, rfl⟩
        have og6 := og.same sm6
        have ow6 := ow5.same sm6
        refine ⟨_, rfl, v', bs, n, c, ms, ps, rfl, og6, O, fun H7 u us sm7 ou nu ndu => ?_⟩
        refine ⟨_, rfl, _, u, .ref D, us, D :: cs', rfl, ou, ndu, stk.same sm7, j4, j2, j3, fun H8 fr8 => ?_⟩
        have sm8 : Same H6 H8 := fun b o e => fr8 b (fun z => by have := nu b z; rw [e] at this; cases this) o (sm7 b o e)
        refine ⟨_, rfl, iteF ?_⟩
        refine ⟨_, rfl, v', bs, n, c, ms, ps, rfl, og6.same sm8, O, fun H9 u2 us2 sm9 ou2 nu2 ndu2 => ?_⟩
        refine ⟨_, rfl, _, u2, .ref D, us2, D :: cs', rfl, ou2, ndu2, (stk.same sm8).same sm9, j4, j2, j3, fun H10 fr10 => ?_⟩
        have sm10 : Same H8 H10 := fun b o e => fr10 b (fun z => by have := nu2 b z; rw [e] at this; cases this) o (sm9 b o e)
        have k10 := sm8.trans sm10
        refine ⟨_, rfl, iteF ?_⟩
        have og10 := og6.same k10
        have ow10 := ow6.same k10
        have vv := O.vol
        have ml := O.len
        refine ⟨_, rfl, .ref t, as', ms, ps, rfl, ow10, O.pos, by omega, O.pl, by omega, O.piece, Nat.le_trans (fk_nodes O) (by decide), fun H11 u3 us3 ls sm11 ou3 _ L3 ll3 => ?_⟩
        obtain ⟨lp, lv⟩ := O.least L3 ll3
        obtain ⟨t3, a3, b3, xs3, cs3, rfl, ht3, ha3, hb3, ho3, _⟩ := own_form_in ou3
        refine ⟨t3, _, _, .ref a3, rfl, rfl, SqT.of ht3, rfl, a3, rfl, ⟨_, SqL.of ha3⟩, fun D2 hD2 => ?_⟩
        have nll : (NL ls).length = ls.length := List.length_map ..
        refine lc_list (K := K) (a := a3) (xs := NL ls) (Made H11 D2 (fun i => decide (1 < ls.getD i 0)) (fun i => V.int (ls.getD i 0 : Nat))) (Made.start hD2) (fun i H' _ M => M.same.seq (SqL.of ha3)) ?_ ?_
        · rintro i x H12 hx M
          have il := (List.getElem?_eq_some_iff.mp hx).1
          rw [nll] at il
          obtain rfl := map_at (d := 0) hx
          refine ⟨rfl, _, rfl, _, _, rfl, rfl, _, rfl, ite2 (fun h => ?_) (fun h => ?_)⟩
          · have h' := of_decide_eq_true h
            exact ⟨_, rfl, M.yes hD2 (Same.refl _) (decide_eq_true (show 1 < ls.getD i 0 by omega)) (by omega)⟩
          · exact M.no (Same.refl _) (decide_eq_false fun z => h (decide_eq_true (by omega)))
        · intro H12 M
          have M1 := M.at_
          have k12 := sm11.trans M.same
          clear M
          obtain ⟨al, hal⟩ : ∃ al : List Int, al = ((List.range (NL ls).length).filter fun i => decide (1 < ls.getD i 0)).map fun i => ((ls.getD i 0 : Nat) : Int) := ⟨_, rfl⟩
          have M2 : H12 D2 = some (.lst (IL al)) := by
            rw [M1, hal]
            unfold made IL
            rw [List.map_map]
            rfl
          refine ⟨Nat.zero_le _, fun e0 he0 => ?_⟩
          have ze := same_new (o := .lst []) he0
          refine ⟨.list (al.map PyData.int), .list (([] : List Int).map PyData.int), .lst (SqL.of (ze _ _ M2)) (dp_il _), .lst (SqL.of upd_same) .nil, shaped_il _, shaped_il _, ?_⟩
          rw [eqv_lil]
          obtain ⟨AL, hAL⟩ : ∃ AL, AL = decide (al = []) := ⟨_, rfl⟩
          rw [← hAL]
          have alone : AL = true ↔ ∀ l ∈ ls, l = 1 := by
            rw [hAL, decide_eq_true_iff, hal, List.map_eq_nil_iff, List.filter_eq_nil_iff]
            constructor
            · intro h l hl
              obtain ⟨i, hi⟩ := List.mem_iff_getElem?.mp hl
              have il := (List.getElem?_eq_some_iff.mp hi).1
              have := h i (List.mem_range.mpr (by rw [nll]; exact il))
              have e : ls.getD i 0 = l := by rw [List.getD_eq_getElem?_getD, hi]; rfl
              rw [e] at this
              have p0 := lp l hl
              have : ¬ 1 < l := fun z => this (decide_eq_true z)
              omega
            · intro h i hi z
              rw [List.mem_range, nll] at hi
              have := h _ (List.getElem_mem hi)
              have e : ls.getD i 0 = ls[i] := by rw [List.getD_eq_getElem?_getD, List.getElem?_eq_getElem hi]; rfl
              rw [e, this] at z
              simp at z
          have k13 := k12.trans ze
          generalize upd H12 e0 (.lst []) = H13 at *
          have og13 := og10.same k13
          have plain : ∀ B ls', FM.LeastT (formF ms ps) ls' → ls'.length = ms.length → (B = true ↔ ∀ l ∈ ls', l = 1) → B = AL := fun B ls' LL e hB => by
            have : ls' = ls := LL.uniq L3 (by omega)
            subst this
            rw [Bool.eq_iff_iff, hB, alone]
          have bbs : ∀ b : Bool, Fit (.list [.bool b, .bool b]) := fun b => ⟨trivial, trivial, trivial⟩
          obtain ⟨g1, g2, g3⟩ := fit_shown (bbs AL)
          have big : 100 * 160000 ≤ sizeLine := by decide
          have nbb : nodes (.list [.bool AL, .bool AL]) ≤ 10 := by simp [nodes, nodesAll]
          have dbb : (PyData.list [.bool AL, .bool AL]).depth ≤ 60 := by simp [PyData.depth, PyData.depthAll]
          refine ⟨_, rfl, v', n, c, ms, ps, rfl, og13.dp, O, fun H14 B1 l1 sm14 L1 e1 hB1 => ?_⟩
          obtain rfl := plain B1 l1 L1 e1 hB1
          refine ⟨_, rfl, v', n, c, ms, ps, rfl, (og13.same sm14).dp, O, fun H15 B2 l2 sm15 L2' e2 hB2 => ?_⟩
          obtain rfl := plain B2 l2 L2' e2 hB2
          refine ⟨(by show 2 ≤ sizeLine; decide), fun p1 hp1 => ?_⟩
          have zp1 := same_new (o := .lst [V.bl B2, V.bl B2]) hp1
          refine ⟨.ref p1, .list [.bool B2, .bool B2], rfl, .lst (SqL.of upd_same) (.cons (.bl _) (.cons (.bl _) .nil)), g2, g3, dbb, by omega, ?_⟩
          refine ⟨_, rfl, _, rfl, (by show 2 ≤ sizeLine; decide), fun p2 hp2 => ?_⟩
          have zp2 := same_new (o := .lst [V.bl B2, V.bl B2]) hp2
          have sameV : ∀ x : V, (!decide (x = x)) = false := fun x => by simp
          refine ⟨.ref p2, .list [.bool B2, .bool B2], rfl, .lst (SqL.of upd_same) (.cons (.bl _) (.cons (.bl _) .nil)), g2, g3, dbb, by omega, rfl, _, rfl, ?_⟩
          rw [sameV]
          refine iteF ?_
          have k16 := ((k13.trans (sm14.trans sm15)).trans zp1).trans zp2
          generalize upd (upd H15 p1 (.lst [V.bl B2, V.bl B2])) p2 (.lst [V.bl B2, V.bl B2]) = H16 at *
          have og16 := og10.same k16
          have ow16 := ow10.same k16
          have frH : Fr sk H H16 := f4.trans (Fr.of_same (sm5.trans (sm6.trans (k10.trans k16))))
          have TG : ∀ j, FM.Told (lineF ms ps j) ms (ps.map fun rs => rs.getD j ⟨[], 0⟩) := fun j => (FM.told_told O.pos O.pl).comp (g := fun rs : List Line => rs.getD j ⟨[], 0⟩)
          have widL : ∀ j, j < c → ∀ s, s.length = n → (lineF ms ps j s).is.length = n := fun j jc s hs => by
            have m := O.mem hs
            obtain ⟨w1, w2⟩ := O.wid _ m
            unfold lineF
            rw [List.getD_eq_getElem?_getD, List.getElem?_eq_getElem (by omega)]
            exact w1 _ (List.getElem_mem _)
          refine ⟨_, rfl, c, rfl, by omega, by omega, ?_⟩
          refine for_it (walk_range (lo := 0) (n := c)) (fun i σ H' => Same H16 H' ∧ ∃ x6 x7 x12 : Option V, σ = [some (.ref sk), some (.int (n : Nat)), some (.int (c : Nat)), some (.ref t), x4, x5, x6, x7, some v', some (.ref D), some (.bl B2), none, x12]) ⟨Same.refl _, _, _, _, rfl⟩ (fun _ _ _ _ _ => trivial) ?_ ?_
          · rintro j x σ H17 H17' hj ⟨sm17, x6, x7, x12, rfl⟩ ⟨rfl, rfl⟩
            refine ⟨_, rfl, n, rfl, by omega, by omega, ?_⟩
            refine for_it (walk_range (lo := 0) (n := n)) (fun i σ H' => Same H16 H' ∧ ∃ x7 x12 : Option V, σ = [some (.ref sk), some (.int (n : Nat)), some (.int (c : Nat)), some (.ref t), x4, x5, some (.int (0 + ((j : Nat) : Int))), x7, some v', some (.ref D), some (.bl B2), none, x12]) ⟨sm17, _, _, rfl⟩ (fun _ _ _ _ _ => trivial) ?_ ?_
            · rintro k x σ H18 H18' hk ⟨sm18, x7, x12, rfl⟩ ⟨rfl, rfl⟩
              refine ⟨_, rfl, _, rfl, _, rfl, .ref t, n, c, j, k, ms, ps, by simp, (ow16.same sm18).dp, O, hj, hk, fun H19 B sm19 hB => ?_⟩
              have k19 := sm18.trans sm19
              have eqB : ∀ (B' : Bool) ls', FM.LeastT (lineF ms ps j) ls' → ls'.length = n → (B' = true ↔ (1 < ls'.getD k 0 ∨ ∃ s, s.length = n ∧ (lineF ms ps j s).is.getD k 0 ≠ 0)) → B' = B := fun B' ls' LL e h => by
                rw [Bool.eq_iff_iff, h, hB]
                exact (hangs_iff (TG j) LL ml e hk (widL j hj)).symm
              obtain ⟨b1, b2, b3'⟩ := fit_shown (show Fit (.bool B) from trivial)
              have nb1 : nodes (.bool B) ≤ 10 := by simp [nodes]
              have db1 : (PyData.bool B).depth ≤ 60 := by simp [PyData.depth]
              refine ⟨_, rfl, _, rfl, _, rfl, v', n, c, j, k, ms, ps, by simp, (og16.same k19).dp, O, hj, hk, fun H20 B' ls' sm20 LL e h => ?_⟩
              obtain rfl := eqB B' ls' LL e h
              refine ⟨.bl B', .bool B', rfl, .bl _, b2, b3', db1, by omega, ?_⟩
              refine ⟨_, rfl, .bl B', .bool B', rfl, .bl _, b2, b3', db1, by omega, rfl, _, rfl, ?_⟩
              rw [sameV]
              refine iteF ?_
              have k20 := k19.trans sm20
              refine ⟨_, rfl, _, rfl, _, rfl, v', n, c, j, k, ms, ps, by simp [gRev], (og16.same k20).dp, O, hj, hk, fun H21 B'' ls'' sm21 LL'' e'' h'' => ?_⟩
              obtain rfl := eqB B'' ls'' LL'' e'' h''
              refine ⟨.bl B'', .bool B'', rfl, .bl _, b2, b3', db1, by omega, ?_⟩
              refine ⟨_, rfl, .bl B'', .bool B'', rfl, .bl _, b2, b3', db1, by omega, rfl, _, rfl, ?_⟩
              rw [sameV]
              exact iteF ⟨k20.trans sm21, _, _, rfl⟩
            · rintro σ H18 ⟨sm18, x7, x12, rfl⟩
              exact ⟨sm18, _, _, _, rfl⟩
          · rintro σ H17 ⟨sm17, x6, x7, x12, rfl⟩
            obtain ⟨w1, w2, w3⟩ := fit_shown (fit_fk O)
            have wn := fk_nodes O
            have wd : (formD ms ps).depth ≤ 60 := Nat.le_trans (form_depth _ _) (by decide)
            refine ⟨_, rfl, v', formD ms ps, rfl, (og16.same sm17).dp, w2, w3, wd, by omega, ?_⟩
            refine ⟨_, rfl, .ref t, formD ms ps, rfl, (ow16.same sm17).dp, w2, w3, wd, by omega, rfl, ?_⟩
            rw [decide_eq_true (rfl : V.str (formD ms ps).shown = V.str (formD ms ps).shown)]
            exact q H17 (frH.trans (Fr.of_same sm17))
end
end K09

set_option Elab.async false
set_option linter.all false
set_option maxRecDepth 100000
set_option maxHeartbeats 4000000
set_option exponentiation.threshold 5000
namespace K09
open PySem L2 DL PySem.HouseX CM
theorem own_list3 {H : Hp} {p : Addr} {d1 d2 d3 : PyData} {v1 v2 v3 : V} {b1 b2 b3 : List Addr} (h1 : Own H d1 v1 b1) (h2 : Own H d2 v2 b2) (h3 : Own H d3 v3 b3) (hp : H p = none) :
    Own (upd H p (.lst [v1, v2, v3])) (.list [d1, d2, d3]) (.ref p) (p :: (b1 ++ (b2 ++ (b3 ++ [])))) := by
  have z := same_new (o := .lst [v1, v2, v3]) hp
  exact ⟨p, _, _, rfl, upd_same, ⟨v1, _, b1, _, rfl, h1.same z, ⟨v2, _, b2, _, rfl, h2.same z, ⟨v3, _, b3, _, rfl, h3.same z, ⟨rfl, rfl⟩, rfl⟩, rfl⟩, rfl⟩, rfl⟩
theorem nodup3 {H H' : Hp} {p : Addr} {b1 b2 b3 : List Addr} (n1 : b1.Nodup) (n2 : b2.Nodup) (n3 : b3.Nodup) (e1 : ∀ b ∈ b1, ∃ o, H b = some o) (w2 : New H b2) (e12 : ∀ b ∈ b1 ++ b2, ∃ o, H' b = some o) (w3 : New H' b3) (hp : ∀ b ∈ b1 ++ (b2 ++ b3), b ≠ p) : (p :: (b1 ++ (b2 ++ (b3 ++ [])))).Nodup := by
  rw [List.append_nil]
  refine List.nodup_cons.mpr ⟨fun z => hp p z rfl, List.nodup_append.mpr ⟨n1, List.nodup_append.mpr ⟨n2, n3, fun a ha b hb e => ?_⟩, fun a ha b hb e => ?_⟩⟩
  · subst e
    obtain ⟨o, q⟩ := e12 a (List.mem_append_right _ ha)
    rw [w3 a hb] at q
    cases q
  · subst e
    rcases List.mem_append.mp hb with w | w
    · obtain ⟨o, q⟩ := e1 a ha
      rw [w2 a w] at q
      cases q
    · obtain ⟨o, q⟩ := e12 a (List.mem_append_left _ ha)
      rw [w3 a w] at q
      cases q
theorem form_injD {l1 l2 : List Nat} {e1 e2 : List (List Line)} (h : formD l1 e1 = formD l2 e2) : l1 = l2 ∧ e1 = e2 := by
  have h' := PyData.tuple.inj h
  have a := (List.cons.inj h').1
  have b := (List.cons.inj (List.cons.inj h').2).1
  exact ⟨nats_inj (PyData.list.inj a), (List.map_inj_right (fun x y h => piece_inj h)).mp (PyData.list.inj b)⟩
/-- told by multiples of the moduli it is the same map -/
theorem wide_told {n c : Nat} {ms ns : List Nat} {ps : List (List Line)} (O : FK n c ms ps) (nl : ns.length = n) (np : ∀ m ∈ ns, 0 < m) (nd : ∀ i m x : Nat, ms[i]? = some m → ns[i]? = some x → m ∣ x) : ∀ s, s.length = n → formF ns (FM.tab ns (formF ms ps)) s = formF ms ps s := fun s hs => by
  have ml := O.len
  have TF : FM.Told (formF ms ps) ms ps := FM.told_told O.pos O.pl
  have T2 : FM.Told (formF ms ps) ns (FM.tab ns (formF ms ps)) := FM.told_of np fun i x hx => by
    have il := (List.getElem?_eq_some_iff.mp hx).1
    obtain ⟨m, hm⟩ : ∃ m, ms[i]? = some m := ⟨_, List.getElem?_eq_getElem (by omega)⟩
    obtain ⟨q, hq⟩ := nd i m x hm hx
    have P := TF.perI hm
    rw [ml] at P
    rw [hq, nl]
    exact P.times q
  exact form_tab T2 (by omega)
/-- the least forms of two tellings of the same map are the same -/
theorem least_same {n c : Nat} {ms ns l1 l2 : List Nat} {ps qs : List (List Line)} (O1 : FK n c ms ps) (O2 : FK n c ns qs) (L1 : FM.LeastT (formF ms ps) l1) (L2' : FM.LeastT (formF ns qs) l2) (e1 : l1.length = ms.length) (e2 : l2.length = ns.length) (h : ∀ s, s.length = n → formF ms ps s = formF ns qs s) : l1 = l2 ∧ FM.tab l1 (formF ms ps) = FM.tab l2 (formF ns qs) := by
  have a1 := O1.len
  have a2 := O2.len
  have Lc : FM.LeastT (formF ns qs) l1 := least_congr (fun s hs => h s (by omega)) L1
  have el : l1 = l2 := Lc.uniq L2' (by omega)
  subst el
  exact ⟨rfl, FM.tab_ext fun r hr => h r (by rw [FM.rest_len hr]; omega)⟩
/-- least forms told as data: the same just if the maps are -/
theorem least_eqv {n c : Nat} {ms ns l1 l2 : List Nat} {ps qs : List (List Line)} (O1 : FK n c ms ps) (O2 : FK n c ns qs) (L1 : FM.LeastT (formF ms ps) l1) (L2' : FM.LeastT (formF ns qs) l2) (e1 : l1.length = ms.length) (e2 : l2.length = ns.length) :
    PyData.eqv (formD l1 (FM.tab l1 (formF ms ps))) (formD l2 (FM.tab l2 (formF ns qs))) = true ↔ ∀ s, s.length = n → formF ms ps s = formF ns qs s := by
  have told : ∀ {ms ls : List Nat} {ps : List (List Line)}, FM.LeastT (formF ms ps) ls → FM.Told (formF ms ps) ls (FM.tab ls (formF ms ps)) := fun {ms ls ps} L => FM.told_of (fun m hm => by
    obtain ⟨i, hi⟩ := List.mem_iff_getElem?.mp hm
    exact (L.atI hi).1) fun i m h => (L.atI h).2.1
  rw [eqv_intD (intD_form _ _) (intD_form _ _), ← tabs_same O1 O2 L1 L2' (told L1) (told L2') e1 e2]
  constructor
  · exact form_injD
  · rintro ⟨h1, h2⟩
    rw [h2, h1]
theorem dot_le : ∀ {as bs : List Int} {A B : Nat}, (∀ a ∈ as, a.natAbs ≤ A) → (∀ b ∈ bs, b.natAbs ≤ B) → (dotI as bs).natAbs ≤ as.length * (A * B)
  | [], _, _, _, _, _ => by simp [dotI]
  | _ :: _, [], _, _, _, _ => by simp [dotI]
  | a :: as, b :: bs, A, B, h1, h2 => by
    have ih := dot_le (as := as) (bs := bs) (fun x hx => h1 x (List.mem_cons_of_mem _ hx)) fun x hx => h2 x (List.mem_cons_of_mem _ hx)
    have m : (a * b).natAbs ≤ A * B := by
      rw [Int.natAbs_mul]
      exact Nat.mul_le_mul (h1 a List.mem_cons_self) (h2 b List.mem_cons_self)
    show (a * b + dotI as bs).natAbs ≤ _
    have t := Int.natAbs_add_le (a * b) (dotI as bs)
    rw [List.length_cons, Nat.succ_mul]
    omega
theorem res_small {n c : Nat} {ms : List Nat} {ps : List (List Line)} (O : FK n c ms ps) {st : List Int} (sl : st.length = n) (sb : ∀ x ∈ st, x.natAbs ≤ 10 ^ 9) :
    (stD ((rowsOf ms ps st).map (·.at st))).depth ≤ 6 ∧ nodes (stD ((rowsOf ms ps st).map (·.at st))) ≤ 80000 ∧ Fit (stD ((rowsOf ms ps st).map (·.at st))) := by
  have plt : FM.plc ms (modI ms st) < ps.length := by
    rw [O.pl]
    exact FM.plc_lt (modI_rest O.pos (by rw [O.len, sl]))
  have mem : rowsOf ms ps st ∈ ps := by
    unfold rowsOf
    rw [List.getD_eq_getElem?_getD, List.getElem?_eq_getElem plt]
    exact List.getElem_mem _
  obtain ⟨w1, w2⟩ := O.wid _ mem
  have c4 := O.c4
  have n4 := O.n4
  refine ⟨?_, ?_, ?_⟩
  · have g := (lay_il ((rowsOf ms ps st).map (·.at st))).2
    simp only [stD, PyData.depth]
    omega
  · have := ints_nodes2 ((rowsOf ms ps st).map (·.at st))
    rw [List.length_map] at this
    simp only [stD, nodes]
    omega
  · show FitAll _
    refine fit_ints fun x hx => ?_
    obtain ⟨r, hr, rfl⟩ := List.mem_map.mp hx
    have d := dot_le (as := r.is) (bs := st) (A := 100) (B := 10 ^ 9) (O.sml _ mem r hr) sb
    have a := O.ams _ mem r hr
    rw [w1 r hr] at d
    unfold Line.at
    have t := Int.natAbs_add_le (dotI r.is st) r.am
    have e : n * (100 * 10 ^ 9) ≤ 4 * (100 * 10 ^ 9) := Nat.mul_le_mul_right _ n4
    have z : 4 * (100 * 10 ^ 9) + 100 < 10 ^ 38 := by decide
    omega
theorem fk3 {n c : Nat} {m1 m2 m3 : List Nat} {p1 p2 p3 : List (List Line)} (O1 : FK n c m1 p1) (O2 : FK n c m2 p2) (O3 : FK n c m3 p3) :
    (PyData.list [formD m1 p1, formD m2 p2, formD m3 p3]).depth ≤ 6 ∧ nodes (.list [formD m1 p1, formD m2 p2, formD m3 p3]) ≤ 80000 ∧ Fit (.list [formD m1 p1, formD m2 p2, formD m3 p3]) := by
  have a1 := fk_nodes O1
  have a2 := fk_nodes O2
  have a3 := fk_nodes O3
  have d1 := form_depth m1 p1
  have d2 := form_depth m2 p2
  have d3 := form_depth m3 p3
  refine ⟨?_, ?_, fit_fk O1, fit_fk O2, fit_fk O3, trivial⟩
  · simp only [PyData.depth, PyData.depthAll] at *
    omega
  · simp only [nodes, nodesAll] at *
    omega
end K09

set_option Elab.async false
set_option linter.all false
set_option maxRecDepth 100000
set_option maxHeartbeats 4000000
set_option exponentiation.threshold 5000
namespace K09
open PySem L2 DL PySem.HouseX CM
def spRight : Sp := fun vs H Q _ => ∃ sk : Addr, vs = [.ref sk] ∧ SackAt H sk 0 ∧ ∀ H', Fr sk H H' → Q (.bl true) H'
structure TxtW (mg : Str → Option Value) (fP fD fW fX fC fLL fL fSm fSt fA fLA fAl fR fHR : Addr) : Prop where
  int : mg "int" = none
  range : mg "range" = none
  list : mg "list" = none
  repr : mg "repr" = none
  gP : mg "_law_hd_pick" = some (.ref fP)
  gD : mg "_law_hd_drawn_form" = some (.ref fD)
  gW : mg "_law_hd_widened" = some (.ref fW)
  gX : mg "_law_hd_changed_form" = some (.ref fX)
  gC : mg "_law_hd_copy" = some (.ref fC)
  gLL : mg "_law_hd_least" = some (.ref fLL)
  gL : mg "least" = some (.ref fL)
  gSm : mg "_law_hd_same" = some (.ref fSm)
  gSt : mg "_law_hd_state" = some (.ref fSt)
  gA : mg "at" = some (.ref fA)
  gLA : mg "_law_hd_at" = some (.ref fLA)
  gAl : mg "alike" = some (.ref fAl)
  gR : mg "_law_hd_ranks" = some (.ref fR)
  gHR : mg "_law_hd_hangs_right" = some (.ref fHR)
section
variable {P : Program} {w : World} {K : PySem.W.Frag} {mg : Str → Option Value} {base : Heap}
theorem scRight : FnScope ["_law_sack", "_law_many", "_law_results", "_law_most", "_law_form", "_law_wide", "_law_other", "_law_owed", "_law_due", "_law_given", "_law_told_here", "_law_turn", "_law_state_here", "_law_kept", "_law_answer", "_law_found"] ["_law_sack"] (defScope sLRight) := ⟨rfl, rfl, rfl, by decide +kernel, rfl, by decide +kernel, by decide +kernel⟩
theorem ok_right {f fP fD fW fX fC fLL fL fSm fSt fA fLA fAl fR fHR : Addr} {fd fdP fdD fdW fdX fdC fdLL fdL fdSm fdSt fdA fdLA fdAl fdR fdHR : FuncData} (F : Fun K "_law_right" "_law_right" sLRight f fd) (T : TxtW mg fP fD fW fX fC fLL fL fSm fSt fA fLA fAl fR fHR)
    (GP : FnOk P w K mg base CX0 1 fP fdP ["_law_sack", "_law_many"] spPick) (kP : PySem.W.keepIn K (.ref fP) = true) (bP : Binds K fdP ["_law_sack", "_law_many"] [])
    (GD : FnOk P w K mg base CX0 5 fD fdD ["_law_sack", "_law_many", "_law_results", "_law_most"] spDrawnF) (kD : PySem.W.keepIn K (.ref fD) = true) (bD : Binds K fdD ["_law_sack", "_law_many", "_law_results", "_law_most"] [])
    (GW : FnOk P w K mg base CX0 6 fW fdW ["_law_sack", "_law_form", "_law_most"] spWidened) (kW : PySem.W.keepIn K (.ref fW) = true) (bW : Binds K fdW ["_law_sack", "_law_form", "_law_most"] [])
    (GX : FnOk P w K mg base CX0 7 fX fdX ["_law_sack", "_law_form"] spChanged) (kX : PySem.W.keepIn K (.ref fX) = true) (bX : Binds K fdX ["_law_sack", "_law_form"] [])
    (GC : FnOk P w K mg base CX0 6 fC fdC ["_law_thing"] (spCopy 5)) (kC : PySem.W.keepIn K (.ref fC) = true) (bC : Binds K fdC ["_law_thing"] [])
    (GLL : FnOk P w K mg base CX0 7 fLL fdLL ["_law_form"] spLLeast) (kLL : PySem.W.keepIn K (.ref fLL) = true) (bLL : Binds K fdLL ["_law_form"] [])
    (GL : FnOk P w K mg base CX0 4 fL fdL ["form"] (spLeast K)) (kL : PySem.W.keepIn K (.ref fL) = true) (bL : Binds K fdL ["form"] []) (sL : KBinds K fdL ["form"] ["form"] gOne gOne)
    (GS : FnG P w K mg base 8 fSm fdSm ["_law_answer", "_law_due"] (spSame 6)) (kS : PySem.W.keepIn K (.ref fSm) = true) (bS : Binds K fdSm ["_law_answer", "_law_due"] [])
    (GT : FnOk P w K mg base CX0 2 fSt fdSt ["_law_sack", "_law_many", "_law_top"] spState) (kT : PySem.W.keepIn K (.ref fSt) = true) (bT : Binds K fdSt ["_law_sack", "_law_many", "_law_top"] [])
    (GA : FnOk P w K mg base CX0 4 fA fdA ["form", "state"] (spAt K)) (kA : PySem.W.keepIn K (.ref fA) = true) (bA : Binds K fdA ["form", "state"] []) (sA : KBinds K fdA ["form", "state"] ["state", "form"] gSw gSw)
    (GB : FnOk P w K mg base CX0 2 fLA fdLA ["_law_form", "_law_state_here"] (spLAt K)) (kB : PySem.W.keepIn K (.ref fLA) = true) (bB : Binds K fdLA ["_law_form", "_law_state_here"] [])
    (GE : FnOk P w K mg base CX0 5 fAl fdAl ["one", "other"] (spAlike K)) (kE : PySem.W.keepIn K (.ref fAl) = true) (bE : Binds K fdAl ["one", "other"] []) (sE : KBinds K fdAl ["one", "other"] ["other", "one"] gSw gSw)
    (GR : FnOk P w K mg base CX0 7 fR fdR ["_law_thing", "_law_ranks"] (spRanks 6)) (kR : PySem.W.keepIn K (.ref fR) = true) (bR : Binds K fdR ["_law_thing", "_law_ranks"] [])
    (GH : FnG P w K mg base 9 fHR fdHR ["_law_sack"] spHR) (kH : PySem.W.keepIn K (.ref fHR) = true) (bH : Binds K fdHR ["_law_sack"] []) : FnG P w K mg base 10 f fd ["_law_sack"] spRight := by
  have nd := scRight.nd
  refine F.okG scRight (fun vs H Q E h => ?_) (fun cdv A outer s H vs Q E hgd hr h => ?_)
  · obtain ⟨_, rfl, _⟩ := h
    rfl
  · obtain ⟨sk, rfl, hsk, q⟩ := h
    have hu : (A.deeper (PyProof.Rows.envOfC "_law_right" (defScope sLRight) s.heap.objs.size f cdv)).units + 65 < cLine := by
      have := hr.un
      omega
    have hr1 : Room 1 _ := hr.mono (by decide)
    have hr2 : Room 2 _ := hr.mono (by decide)
    have hr4 : Room 4 _ := hr.mono (by decide)
    have hr5 : Room 5 _ := hr.mono (by decide)
    have hr6 : Room 6 _ := hr.mono (by decide)
    have hr7 : Room 7 _ := hr.mono (by decide)
    have hr8 : Room 8 _ := hr.mono (by decide)
    refine ⟨_, pss_cons (ps_par (i := 1) (j := 2) (by rfl) nd rfl rfl (by decide) rfl rfl (pa_cons (pe_op op_add pe_int (pe_call GP hr1 rfl T.gP kP bP .nil pass0 (pa_cons (pv 0) (pa_cons pe_int pa_nil)))) (pa_cons (pe_op op_add pe_int (pe_call GP hr1 rfl T.gP kP bP .nil pass0 (pa_cons (pv 0) (pa_cons pe_int pa_nil)))) pa_nil)) (by rfl))
      (pss_cons (ps_set (i := 3) nd rfl (Or.inl rfl) (pe_ix ix_list (pe_lst (pa_cons pe_int (pa_cons pe_int (pa_cons pe_int (pa_cons pe_int (pa_cons pe_int (pa_cons pe_int pa_nil))))))) (pe_call GP hr1 rfl T.gP kP bP .nil pass0 (pa_cons (pv 0) (pa_cons pe_int pa_nil))) (fun _ _ => rfl)))
      (pss_cons (ps_if (pt_cmpR op_eq (pe_call GP hr1 rfl T.gP kP bP .nil pass0 (pa_cons (pv 0) (pa_cons pe_int pa_nil))) pe_int (nomark _)) (pss_one (ps_set (i := 3) nd rfl (Or.inl rfl) pe_int)) pss_nil)
      (pss_cons (ps_set (i := 4) nd rfl (Or.inl rfl) (pe_call GD hr5 rfl T.gD kD bD .nil pass0 (pa_cons (pv 0) (pa_cons (pv 1) (pa_cons (pv 2) (pa_cons (pe_ix ix_list (pe_lst (pa_cons (pv 3) (pa_cons pe_int pa_nil))) (pe_callTy call_int1 (by rfl) T.int (by decide +kernel) (pa_cons (pe_cmpR op_eq (pv 3) pe_int (nomark _)) pa_nil)) (fun _ _ => rfl)) pa_nil))))))
      (pss_cons (ps_par (i := 5) (j := 6) (by rfl) nd rfl rfl (by decide) rfl rfl (pa_cons (pe_call GW hr6 rfl T.gW kW bW .nil pass0 (pa_cons (pv 0) (pa_cons (pv 4) (pa_cons (pv 3) pa_nil)))) (pa_cons (pe_call GX hr7 rfl T.gX kX bX .nil pass0 (pa_cons (pv 0) (pa_cons (pv 4) pa_nil))) pa_nil)) (by rfl))
      (pss_cons (ps_par (i := 7) (j := 8) (by rfl) nd rfl rfl (by decide) rfl rfl (pa_cons (pe_call GLL hr7 rfl T.gLL kLL bLL .nil pass0 (pa_cons (pv 4) pa_nil)) (pa_cons (pe_call GLL hr7 rfl T.gLL kLL bLL .nil pass0 (pa_cons (pv 6) pa_nil)) pa_nil)) (by rfl))
      (pss_cons (ps_set (i := 9) nd rfl (Or.inl rfl) (pe_lst (pa_cons (pe_call GC hr6 rfl T.gC kC bC .nil pass0 (pa_cons (pv 4) pa_nil)) (pa_cons (pe_call GC hr6 rfl T.gC kC bC .nil pass0 (pa_cons (pv 5) pa_nil)) (pa_cons (pe_call GC hr6 rfl T.gC kC bC .nil pass0 (pa_cons (pv 6) pa_nil)) pa_nil)))))
      (pss_cons (ps_set (i := 10) nd rfl (Or.inl rfl) (pe_lst (pa_cons (pe_call GL hr4 rfl T.gL kL bL .nil pass0 (pa_cons (pe_ix ix_list (pv 9) pe_int (fun _ _ => rfl)) pa_nil)) (pa_cons (pe_callKS (E := fun _ => E0) GL hr4 rfl T.gL kL sL (fun _ _ _ _ _ _ _ h => h.elim) (pk_cons (pe_ix ix_list (pv 9) pe_int (fun _ _ => rfl)) pk_nil)) (pa_cons (pe_call GL hr4 rfl T.gL kL bL .nil pass0 (pa_cons (pe_ix ix_list (pv 9) pe_int (fun _ _ => rfl)) pa_nil)) pa_nil)))))
      (pss_cons (ps_if (PW.pt (pw_or (pt_not (pt_val (pe_callG GS hgd hr8 rfl T.gSm kS bS (pa_cons (pv 10) (pa_cons (pe_lst (pa_cons (pv 7) (pa_cons (pv 7) (pa_cons (pv 8) pa_nil)))) pa_nil)))))
          (pw_or1 (pt_cmpR op_ne (pe_callB (call_repr hgd hu) (by rfl) T.repr (by decide +kernel) (pa_cons (pv 9) pa_nil)) (pe_callB (call_repr hgd hu) (by rfl) T.repr (by decide +kernel) (pa_cons (pe_lst (pa_cons (pv 4) (pa_cons (pv 5) (pa_cons (pv 6) pa_nil)))) pa_nil)) (nomark _))))) (pss_one (ps_ret pe_bl)) pss_nil)
      (pss_cons (ps_for PassesOwn.never rfl (pi_range1 (by rfl) T.range (pa_cons pe_int pa_nil)) (pg_name (i := 11) nd rfl (Or.inl rfl))
        (pss_cons (ps_set (i := 12) nd rfl (Or.inl rfl) (pe_call GT hr2 rfl T.gSt kT bT .nil pass0 (pa_cons (pv 0) (pa_cons (pv 1) (pa_cons (pe_ix ix_list (pe_lst (pa_cons pe_int (pa_cons pe_int (pa_cons (pe_op op_pow pe_int pe_int) pa_nil)))) (pv 11) (fun _ _ => rfl)) pa_nil)))))
        (pss_cons (ps_set (i := 13) nd rfl (Or.inl rfl) (pe_callTy call_list_of (by rfl) T.list (by decide +kernel) (pa_cons (pv 12) pa_nil)))
        (pss_cons (ps_set (i := 14) nd rfl (Or.inl rfl) (pe_ifExp (pt_cmpR op_lt (pv 11) pe_int (nomark _)) (pe_call GA hr4 rfl T.gA kA bA .nil pass0 (pa_cons (pe_ix ix_list (pv 9) (pv 11) (fun _ _ => rfl)) (pa_cons (pv 13) pa_nil)))
          (pe_callKS (E := fun _ => E0) GA hr4 rfl T.gA kA sA (fun _ _ _ _ _ _ _ h => h.elim) (pk_cons (pv 13) (pk_cons (pe_ix ix_list (pv 9) (pv 11) (fun _ _ => rfl)) pk_nil)))))
        (pss_one (ps_if (PW.pt (pw_or (pt_not (pt_val (pe_callG GS hgd hr8 rfl T.gSm kS bS (pa_cons (pv 14) (pa_cons (pe_call GB hr2 rfl T.gLA kB bB .nil pass0 (pa_cons (pe_ix ix_list (pe_lst (pa_cons (pv 4) (pa_cons (pv 5) (pa_cons (pv 6) pa_nil)))) (pv 11) (fun _ _ => rfl)) (pa_cons (pv 12) pa_nil))) pa_nil)))))
          (pw_or1 (pt_cmpR (op_neD hr.units) (pv 13) (pv 12) (nomark _))))) (pss_one (ps_ret pe_bl)) pss_nil))))))
      (pss_cons (ps_set (i := 15) nd rfl (Or.inl rfl) (pe_lst (pa_cons (pe_call GE hr5 rfl T.gAl kE bE .nil pass0 (pa_cons (pe_ix ix_list (pv 9) pe_int (fun _ _ => rfl)) (pa_cons (pe_ix ix_list (pv 9) pe_int (fun _ _ => rfl)) pa_nil))) (pa_cons (pe_call GE hr5 rfl T.gAl kE bE .nil pass0 (pa_cons (pe_ix ix_list (pv 9) pe_int (fun _ _ => rfl)) (pa_cons (pe_ix ix_list (pv 9) pe_int (fun _ _ => rfl)) pa_nil)))
        (pa_cons (pe_callKS (E := fun _ => E0) GE hr5 rfl T.gAl kE sE (fun _ _ _ _ _ _ _ h => h.elim) (pk_cons (pe_ix ix_list (pv 9) pe_int (fun _ _ => rfl)) (pk_cons (pe_ix ix_list (pv 9) pe_int (fun _ _ => rfl)) pk_nil))) pa_nil)))))
      (pss_cons (ps_if (pt_cmpR op_ne (pe_callB (call_repr hgd hu) (by rfl) T.repr (by decide +kernel) (pa_cons (pv 15) pa_nil)) (pe_callB (call_repr hgd hu) (by rfl) T.repr (by decide +kernel) (pa_cons (pe_lst (pa_cons pe_bl (pa_cons (pe_cmpR (op_eqD hr.units) (pv 7) (pv 8) (nomark _)) (pa_cons (pe_cmpR (op_eqD hr.units) (pv 7) (pv 8) (nomark _)) pa_nil)))) pa_nil)) (nomark _)) (pss_one (ps_ret pe_bl)) pss_nil)
      (pss_cons (ps_expr (pe_call GR hr7 rfl T.gR kR bR .nil pass0 (pa_cons (pv 9) (pa_cons (pe_lst (pa_cons pe_int pa_nil)) pa_nil))))
      (pss_one (ps_ret (pe_and (pe_cmpR (op_eqD hr.units) (pe_call GL hr4 rfl T.gL kL bL .nil pass0 (pa_cons (pv 4) pa_nil)) (pv 7) (nomark _)) (pe_and (pe_cmpR op_isBl (pe_call GE hr5 rfl T.gAl kE bE .nil pass0 (pa_cons (pv 5) (pa_cons (pv 7) pa_nil))) pe_bl (nomark _)) (pe_one (pe_callG GH hgd hr rfl T.gHR kH bH (pa_cons (pv 0) pa_nil))))))))))))))))))), ?_⟩
    refine ⟨_, rfl, sk, 0, 4, rfl, hsk, by omega, by decide, by decide, fun H1 z z0 z1 q1 s1 => ⟨_, _, rfl, rfl, ?_⟩⟩
    refine ⟨_, rfl, sk, 1, 4, rfl, s1, by omega, by decide, by decide, fun H2 y y0 y1 q2 s2 => ⟨_, _, rfl, rfl, _, _, rfl, ?_⟩⟩
    obtain ⟨n, hn, n0, n4⟩ : ∃ n : Nat, 1 + z = (n : Int) ∧ 0 < n ∧ n ≤ 4 := ⟨1 + z.toNat, by omega, by omega, by omega⟩
    obtain ⟨c, hc, c0, c4⟩ : ∃ c : Nat, 1 + y = (c : Int) ∧ 0 < c ∧ c ≤ 4 := ⟨1 + y.toNat, by omega, by omega, by omega⟩
    dsimp only
    rw [hn, hc]
    have f2 : Fr sk H H2 := (Fr.of_eq q1).trans (Fr.of_eq q2)
    refine ⟨(by show 6 ≤ sizeLine; decide), fun a0 h0 => ?_⟩
    have na0 := s2.ne h0
    refine ⟨_, rfl, sk, 2, 6, rfl, s2.put na0, by omega, by decide, by decide, fun H3 x x0 x1 q3 s3 => ?_⟩
    have at0 : H3 a0 = some (.lst [V.int 24, V.int 6, V.int 12, V.int 24, V.int 6, V.int 60]) := (q3 a0 (Ne.symm na0)).trans upd_same
    obtain ⟨m0, hm0, m00, m06⟩ : ∃ m0 : Nat, atI [V.int 24, V.int 6, V.int 12, V.int 24, V.int 6, V.int 60] x = some (V.int (m0 : Nat)) ∧ 0 < m0 ∧ m0 ≤ 600 := by
      rcases (show x = 0 ∨ x = 1 ∨ x = 2 ∨ x = 3 ∨ x = 4 ∨ x = 5 by omega) with rfl | rfl | rfl | rfl | rfl | rfl
      · exact ⟨24, rfl, by decide, by decide⟩
      · exact ⟨6, rfl, by decide, by decide⟩
      · exact ⟨12, rfl, by decide, by decide⟩
      · exact ⟨24, rfl, by decide, by decide⟩
      · exact ⟨6, rfl, by decide, by decide⟩
      · exact ⟨60, rfl, by decide, by decide⟩
    have f3 : Fr sk H H3 := f2.trans ((Fr.refl.put h0).trans (Fr.of_eq q3))
    refine ⟨a0, _, _, _, rfl, rfl, SqL.of at0, hm0, ?_⟩
    refine ⟨_, rfl, sk, 3, 24, rfl, s3, by omega, by decide, by decide, fun H4 y' y0' y1' q4 s4 => ⟨rfl, _, rfl, ite2 (fun h => ?_) (fun h => ?_)⟩⟩
    · have f4 : Fr sk H H4 := f3.trans (Fr.of_eq q4)
      have mp : 0 < 600 ∧ 600 ≤ 600 := ⟨by decide, by decide⟩
      refine ⟨_, rfl, _, rfl, _, rfl, ?_⟩
      refine ⟨_, rfl, (by show 2 ≤ sizeLine; decide), fun l0 hl0 => ?_⟩
      have nl0 := s4.ne hl0
      have zl0 := same_new (o := .lst [V.int (600 : Nat), V.int 60]) hl0
      have el0 : upd H4 l0 (.lst [V.int (600 : Nat), V.int 60]) l0 = some (.lst [V.int (600 : Nat), V.int 60]) := upd_same
      have s5 := s4.put (o := .lst [V.int (600 : Nat), V.int 60]) nl0
      refine ⟨_, rfl, rfl, .inr ⟨_, rfl, ?_⟩⟩
      obtain ⟨m2, hm2, m20, m26⟩ : ∃ m2 : Nat, atI [V.int (600 : Nat), V.int 60] (if decide (V.int (600 : Nat) = V.int 600) = true then (1 : Int) else 0) = some (V.int (m2 : Nat)) ∧ 0 < m2 ∧ m2 ≤ 600 := by
        split
        · exact ⟨60, rfl, by decide, by decide⟩
        · exact ⟨600, rfl, mp.1, mp.2⟩
      refine ⟨l0, _, _, _, rfl, rfl, SqL.of el0, hm2, ?_⟩
      refine ⟨sk, _, n, c, m2, rfl, s5, by omega, n0, n4, c0, c4, m20, m26, fun H5 v as ms ps f5 s5' ow nw ndp O vm sml => ?_⟩
      have F5 : Fr sk H H5 := f4.trans ((Fr.of_same zl0).trans f5)
      have out := s5.out nw
      refine ⟨_, rfl, _, rfl, _, rfl, sk, v, as, _, n, c, 600, ms, ps, rfl, s5', by omega, ow, out, O, mp.2, fun H6 u bs ns f6 s6 ow2 nw2 nd2 nsl nsp nsv nsd => ?_⟩
      have out2 := s5'.out nw2
      refine ⟨_, rfl, _, rfl, sk, v, as, _, n, c, ms, ps, rfl, s6, by omega, ow.fr out f6, O, sml, fun H7 x3 cs qs f7 s7 ow3 nw3 nd3 O3 => ⟨_, _, rfl, ?_⟩⟩
      have out3 := s6.out nw3
      have O2 := O.tab nsl nsp nsv
      have F7 : Fr sk H H7 := (F5.trans f6).trans f7
      have o1 := (ow.fr out f6).fr out f7
      have o2 := ow2.fr out2 f7
      have o3 := ow3
      obtain ⟨ps2, hps2⟩ : ∃ ps2, ps2 = FM.tab ns (formF ms ps) := ⟨_, rfl⟩
      have wide : ∀ s, s.length = n → formF ns ps2 s = formF ms ps s := by rw [hps2]; exact wide_told O nsl nsp nsd
      rw [← hps2] at o2 O2
      obtain ⟨k7, hk7, s7⟩ : ∃ k7, k7 ≤ 10000 ∧ SackAt H7 sk k7 := ⟨_, by omega, s7⟩
      clear ow ow2 ow3 nw nw2 nw3 f5 f6 f7 s5 s5' s6 F5 hm2 el0 zl0
      have vv := O.vol
      have v3 := O3.vol
      have ml := O.len
      refine ⟨_, rfl, v, as, ms, ps, rfl, o1, O.pos, by omega, O.pl, by omega, O.piece, Nat.le_trans (fk_nodes O) (by decide), fun H8 w1 ws1 l1 sm8 ol1 nl1 L1 e1 => ?_⟩
      refine ⟨_, rfl, x3, cs, ms, qs, rfl, o3.same sm8, O3.pos, by omega, O3.pl, by omega, O3.piece, Nat.le_trans (fk_nodes O3) (by decide), fun H9 w3 ws3 l3 sm9 ol3 nl3 L3 e3 => ⟨_, _, rfl, ?_⟩⟩
      have k9 := sm8.trans sm9
      have o1H := o1
      have o2H := o2
      have ol1H := ol1.same sm9
      refine ⟨_, rfl, formD ms ps, v, as, rfl, o1.same k9, form_depth _ _, Nat.le_trans (fk_nodes O) (by decide), fun H10 g1 b1 sm10 og1 ng1 nd1 => ?_⟩
      refine ⟨_, rfl, formD ns ps2, u, bs, rfl, (o2.same k9).same sm10, form_depth _ _, Nat.le_trans (fk_nodes O2) (by decide), fun H11 g2 b2 sm11 og2 ng2 nd2' => ?_⟩
      refine ⟨_, rfl, formD ms qs, x3, cs, rfl, ((o3.same k9).same sm10).same sm11, form_depth _ _, Nat.le_trans (fk_nodes O3) (by decide), fun H12 g3 b3 sm12 og3 ng3 nd3' => ⟨(by show 3 ≤ sizeLine; decide), fun G hG => ?_⟩⟩
      have eG : upd H12 G (.lst [g1, g2, g3]) G = some (.lst [g1, g2, g3]) := upd_same
      have zG := same_new (o := .lst [g1, g2, g3]) hG
      have og1' := (og1.same sm11).same sm12
      have og2' := og2.same sm12
      have ownG := own_list3 og1' og2' og3 hG
      have ndG : (G :: (b1 ++ (b2 ++ (b3 ++ [])))).Nodup := nodup3 nd1 nd2' nd3' (fun b hb => og1.has b hb) ng2 (fun b hb => by
        rcases List.mem_append.mp hb with w | w
        · exact (og1.same sm11).has b w
        · exact og2.has b w) ng3 fun b hb => by
          rcases List.mem_append.mp hb with w | w
          · exact fun e => og1'.not hG (e ▸ w)
          · rcases List.mem_append.mp w with w | w
            · exact fun e => og2'.not hG (e ▸ w)
            · exact fun e => og3.not hG (e ▸ w)
      have k12 := ((k9.trans (sm10.trans (sm11.trans sm12)))).trans zG
      have p1 := (og1'.same zG)
      have p2 := (og2'.same zG)
      have p3 := (og3.same zG)
      have newG : New H9 (G :: (b1 ++ (b2 ++ (b3 ++ [])))) := fun b hb => by
        rcases List.mem_cons.mp hb with w | w
        · rw [w]; exact (sm10.trans (sm11.trans sm12)).free hG
        · rcases List.mem_append.mp w with w | w
          · exact ng1 b w
          · rcases List.mem_append.mp w with w | w
            · exact sm10.free (ng2 b w)
            · rw [List.append_nil] at w
              exact (sm10.trans sm11).free (ng3 b w)
      have kG : Same H9 (upd H12 G (.lst [g1, g2, g3])) := (sm10.trans (sm11.trans sm12)).trans zG
      generalize upd H12 G (.lst [g1, g2, g3]) = H13 at *
      obtain ⟨D1, hD1⟩ : ∃ D1, D1 = formD l1 (FM.tab l1 (formF ms ps)) := ⟨_, rfl⟩
      obtain ⟨D3, hD3⟩ : ∃ D3, D3 = formD l3 (FM.tab l3 (formF ms qs)) := ⟨_, rfl⟩
      refine ⟨_, rfl, G, _, _, _, rfl, rfl, SqL.of eG, atI_nat (j := 0) rfl, g1, n, c, ms, ps, rfl, p1.dp, O, fun H14 t1 u1 m1 sm14 ot1 nt1 ndt1 LT1 et1 => ?_⟩
      refine ⟨_, rfl, G, _, _, _, rfl, rfl, SqL.of (sm14 _ _ eG), atI_nat (j := 1) rfl, g2, n, c, ns, ps2, rfl, (p2.same sm14).dp, O2, fun H15 t2 u2 m2' sm15 ot2 nt2 ndt2 LT2 et2 => ?_⟩
      refine ⟨_, rfl, G, _, _, _, rfl, rfl, SqL.of ((sm14.trans sm15) _ _ eG), atI_nat (j := 2) rfl, g3, n, c, ms, qs, rfl, (p3.same (sm14.trans sm15)).dp, O3, fun H16 t3 u3 m3 sm16 ot3 nt3 ndt3 LT3 et3 => ⟨(by show 3 ≤ sizeLine; decide), fun TH hTH => ?_⟩⟩
      obtain ⟨rfl, _⟩ := least_same O O LT1 L1 et1 e1 fun _ _ => rfl
      obtain ⟨rfl, tb2⟩ := least_same O2 O LT2 L1 et2 e1 wide
      obtain ⟨rfl, _⟩ := least_same O3 O3 LT3 L3 et3 e3 fun _ _ => rfl
      rw [tb2] at ot2
      have ot1' := (ot1.same sm15).same sm16
      have ot2' := ot2.same sm16
      have ownT := own_list3 ot1' ot2' ot3 hTH
      have ndT : (TH :: (u1 ++ (u2 ++ (u3 ++ [])))).Nodup := nodup3 ndt1 ndt2 ndt3 (fun b hb => ot1.has b hb) nt2 (fun b hb => by
        rcases List.mem_append.mp hb with w | w
        · exact (ot1.same sm15).has b w
        · exact ot2.has b w) nt3 fun b hb => by
          rcases List.mem_append.mp hb with w | w
          · exact fun e => ot1'.not hTH (e ▸ w)
          · rcases List.mem_append.mp w with w | w
            · exact fun e => ot2'.not hTH (e ▸ w)
            · exact fun e => ot3.not hTH (e ▸ w)
      have zT := same_new (o := .lst [t1, t2, t3]) hTH
      have newT : New H13 (TH :: (u1 ++ (u2 ++ (u3 ++ [])))) := fun b hb => by
        rcases List.mem_cons.mp hb with w | w
        · rw [w]; exact (sm14.trans (sm15.trans sm16)).free hTH
        · rcases List.mem_append.mp w with w | w
          · exact nt1 b w
          · rcases List.mem_append.mp w with w | w
            · exact sm14.free (nt2 b w)
            · rw [List.append_nil] at w
              exact (sm14.trans sm15).free (nt3 b w)
      have kT : Same H13 (upd H16 TH (.lst [t1, t2, t3])) := (sm14.trans (sm15.trans sm16)).trans zT
      obtain ⟨lp1, lv1⟩ := O.least L1 e1
      obtain ⟨lp3, lv3⟩ := O3.least L3 e3
      have P1 := O.tab (ns := m2') (by omega) lp1 (by omega)
      have P3 := O3.tab (ns := m3) (by omega) lp3 (by omega)
      obtain ⟨i1, i2, i3⟩ := fk3 P1 P1 P3
      generalize upd H16 TH (.lst [t1, t2, t3]) = H17 at *
      have kOw : Same H9 H17 := kG.trans kT
      have ol1' := (ol1.same sm9).same kOw
      have ol3' := ol3.same kOw
      refine ⟨_, rfl, _, rfl, _, rfl, _, rfl, (by show 3 ≤ sizeLine; decide), fun DU hDU => ?_⟩
      have zU := same_new (o := .lst [w1, w1, w3]) hDU
      have ownU := own_list3 ol1' ol1' ol3' hDU
      refine ⟨_, _, .ref DU, _, _, rfl, ownT.same zU, ndT, ownU, i1, i2, i3, fun H18 fr18 => ?_⟩
      have sm18 : Same H13 H18 := fun b o e => fr18 b (fun z => by have := newT b z; rw [e] at this; cases this) o (zU _ _ (kT b o e))
      refine ⟨_, rfl, iteF ?_⟩
      obtain ⟨r1, r2, r3⟩ := fk3 O O2 O3
      obtain ⟨c1, c2, c3⟩ := fit_shown r3
      have big : 100 * 160000 ≤ sizeLine := by decide
      have sameV : ∀ x : V, (!decide (x = x)) = false := fun x => by simp
      have S7 := k12.trans sm18
      have lG : Dp K H18 (.ref G) (.list [formD ms ps, formD ns ps2, formD ms qs]) := .lst (SqL.of (sm18 _ _ eG)) (.cons (p1.same sm18).dp (.cons (p2.same sm18).dp (.cons (p3.same sm18).dp .nil)))
      refine ⟨_, rfl, .ref G, _, rfl, lG, c2, c3, by omega, by omega, ?_⟩
      refine ⟨_, rfl, _, rfl, _, rfl, (by show 3 ≤ sizeLine; decide), fun LS hLS => ?_⟩
      have zL := same_new (o := .lst [v, u, x3]) hLS
      have S7' := S7.trans zL
      refine ⟨.ref LS, .list [formD ms ps, formD ns ps2, formD ms qs], rfl, .lst (SqL.of upd_same) (.cons (o1.same S7').dp (.cons (o2.same S7').dp (.cons (o3.same S7').dp .nil))), c2, c3, by omega, by omega, rfl, _, rfl, ?_⟩
      rw [sameV]
      refine iteF ?_
      have kA : Same H13 (upd H18 LS (.lst [v, u, x3])) := sm18.trans zL
      generalize upd H18 LS (.lst [v, u, x3]) = H19 at *
      have gO : sk ∉ G :: (b1 ++ (b2 ++ (b3 ++ []))) := ((s7.same k9)).out newG
      have sub1 : ∀ z ∈ b1, z ∈ G :: (b1 ++ (b2 ++ (b3 ++ []))) := fun z hz => by simp [hz]
      have sub2 : ∀ z ∈ b2, z ∈ G :: (b1 ++ (b2 ++ (b3 ++ []))) := fun z hz => by simp [hz]
      have sub3 : ∀ z ∈ b3, z ∈ G :: (b1 ++ (b2 ++ (b3 ++ []))) := fun z hz => by simp [hz]
      have go1 : sk ∉ b1 := fun z => gO (sub1 _ z)
      have go2 : sk ∉ b2 := fun z => gO (sub2 _ z)
      have go3 : sk ∉ b3 := fun z => gO (sub3 _ z)
      have nG : G ≠ sk := fun e => gO (by rw [e]; simp)
      have E1 := p1.same kA
      have E2 := p2.same kA
      have E3 := p3.same kA
      have EG := ownG.same kA
      have eG' := kA _ _ eG
      have Q1 := o1.same S7'
      have Q2 := o2.same S7'
      have Q3 := o3.same S7'
      have W1 := (ol1.same sm9).same (kG.trans kA)
      have W3 := ol3.same (kG.trans kA)
      have sackN : SackAt H19 sk k7 := s7.same S7'
      have FH : Fr sk H H19 := F7.trans (Fr.of_same S7')
      have wo1 : sk ∉ ws1 := s7.out nl1
      have wo3 : sk ∉ ws3 := (s7.same sm8).out nl3
      have okL : ∀ {ms : List Nat} {ps : List (List Line)}, FK n c ms ps → ∀ rs ∈ ps, rs.length ≤ 100 ∧ ∀ l ∈ rs, LineOk ms.length l := fun O rs hrs => by
        obtain ⟨w1, w2⟩ := O.wid rs hrs
        have := O.c4
        exact ⟨by omega, fun l hl => ⟨by rw [w1 l hl, O.len], fun x hx => Nat.le_trans (O.sml rs hrs l hl x hx) (by decide)⟩⟩
      clear ol1 ol3 ol1' ol3' p1 p2 p3 o1 o2 o3 ownG ownT ownU ot1 ot2 ot3 ot1' ot2' lG eG og1 og2 og3 og1' og2'
      refine ⟨3, rfl, by decide, by decide, ?_⟩
      refine for_it (walk_range (lo := 0) (n := 3)) (fun i σ H' => ∃ (kk : Nat) (x11 x12 x13 x14 : Option V), σ = [some (.ref sk), some (.int (n : Nat)), some (.int (c : Nat)), some (.int (600 : Nat)), some v, some u, some x3, some w1, some w3, some (.ref G), some (.ref TH), x11, x12, x13, x14, none] ∧ Fr sk H19 H' ∧ SackAt H' sk kk ∧ kk ≤ k7 + 4 * i) ⟨k7, _, _, _, _, rfl, Fr.refl, sackN, by omega⟩ (fun _ _ _ _ _ => trivial) ?_ ?_
      · rintro i x σ H20 H20' hi ⟨kk, x11, x12, x13, x14, rfl, f20, s20, hkk⟩ ⟨rfl, rfl⟩
        obtain ⟨gx, fx, bx, ax, M, N, hg, hf, Og, Of, nbx, nax, OM⟩ : ∃ (gx fx : V) (bx ax : List Addr) (M : List Nat) (N : List (List Line)), atI [g1, g2, g3] (0 + ((i : Nat) : Int)) = some gx ∧ atI [v, u, x3] (0 + ((i : Nat) : Int)) = some fx ∧ Own H20' (formD M N) gx bx ∧ Own H20' (formD M N) fx ax ∧ sk ∉ bx ∧ sk ∉ ax ∧ FK n c M N := by
          match i, hi with
          | 0, _ => exact ⟨g1, v, b1, as, ms, ps, rfl, rfl, E1.fr go1 f20, Q1.fr out f20, go1, out, O⟩
          | 1, _ => exact ⟨g2, u, b2, bs, ns, ps2, rfl, rfl, E2.fr go2 f20, Q2.fr out2 f20, go2, out2, O2⟩
          | 2, _ => exact ⟨g3, x3, b3, cs, ms, qs, rfl, rfl, E3.fr go3 f20, Q3.fr out3 f20, go3, out3, O3⟩
          | j + 3, hi => exact absurd hi (by omega)
        refine ⟨_, rfl, _, rfl, _, _, rfl, rfl, ⟨by decide, by decide, by decide⟩, (by show 3 ≤ sizeLine; decide), fun l0 hl0 => ?_⟩
        have nl0' := s20.ne hl0
        have zl0' := same_new (o := .lst [V.int 3, V.int 30, V.int (10 ^ (9 : Int).toNat)]) hl0
        have el0' : upd H20' l0 (.lst [V.int 3, V.int 30, V.int (10 ^ (9 : Int).toNat)]) l0 = some (.lst [V.int 3, V.int 30, V.int (10 ^ (9 : Int).toNat)]) := upd_same
        obtain ⟨top, htop, tb⟩ : ∃ top : Nat, atI [V.int 3, V.int 30, V.int (10 ^ (9 : Int).toNat)] (0 + ((i : Nat) : Int)) = some (V.int (top : Nat)) ∧ top ≤ 1000000000 := by
          match i, hi with
          | 0, _ => exact ⟨3, rfl, by decide⟩
          | 1, _ => exact ⟨30, rfl, by decide⟩
          | 2, _ => exact ⟨1000000000, rfl, by decide⟩
          | j + 3, hi => exact absurd hi (by omega)
        refine ⟨_, rfl, l0, _, _, _, rfl, rfl, SqL.of el0', htop, ?_⟩
        refine ⟨sk, kk, n, top, rfl, s20.same zl0', by omega, n4, tb, fun H21 sp st f21 s21 nsp hsp sl sle => ?_⟩
        have sb : ∀ x ∈ st, x.natAbs ≤ 10 ^ 9 := fun x hx => Nat.le_trans (sle x hx) tb
        have f21' : Fr sk H20' H21 := (Fr.of_same zl0').trans f21
        refine ⟨_, rfl, sp, _, rfl, .inl (SqL.of hsp), fun kp hkp => ?_⟩
        have zk := same_new (o := .lst (IL st)) hkp
        have ekp : upd H21 kp (.lst (IL st)) kp = some (.lst (IL st)) := upd_same
        have f22 : Fr sk H20' (upd H21 kp (.lst (IL st))) := f21'.trans (Fr.of_same zk)
        have hsp2 := zk _ _ hsp
        have s22 := s21.same zk
        generalize upd H21 kp (.lst (IL st)) = H22 at *
        have Og2 := Og.fr nbx f22
        have Of2 := Of.fr nax f22
        have hGl : H22 G = some (.lst [g1, g2, g3]) := f22 _ nG _ (f20 _ nG _ eG')
        refine ⟨_, rfl, _, _, rfl, rfl, _, rfl, ite2 (fun _ => ?_) (fun _ => ?_)⟩
        case' refine_1 => refine ⟨_, rfl, _, rfl, G, _, _, _, rfl, rfl, SqL.of hGl, hg, _, rfl, gx, kp, n, c, M, N, st, rfl, Og2.dp, SqL.of ekp, OM, sl, sb, fun H23 p2 sm23 np2 hp2 => ?_⟩
        case' refine_2 => refine ⟨_, rfl, _, rfl, _, rfl, G, _, _, _, rfl, rfl, SqL.of hGl, hg, gx, kp, n, c, M, N, st, rfl, Og2.dp, SqL.of ekp, OM, sl, sb, fun H23 p2 sm23 np2 hp2 => ?_⟩
        all_goals
          refine ⟨_, rfl, _, rfl, _, rfl, _, rfl, (by show 3 ≤ sizeLine; decide), fun l1' hl1' => ?_⟩
          have z1' := same_new (o := .lst [v, u, x3]) hl1'
          have k24 := sm23.trans z1'
          obtain ⟨d1', d2', d3'⟩ := res_small OM sl sb
          have OMl := OM.len
          have OMv := OM.vol
          refine ⟨_, rfl, l1', _, _, _, rfl, rfl, SqL.of upd_same, hf, _, rfl, fx, sp, M, N, st, rfl, (Of2.same k24).dp, SqL.of (k24 _ _ hsp2), OM.pos, by omega, OM.pl, by omega, by omega, sb, okL OM, fun H25 p3' sm25 np3 hp3 => ?_⟩
          have k25 := z1'.trans sm25
          refine ⟨stD ((rowsOf M N st).map (·.at st)), .ref p2, .ref p3', [p2], [p3'], rfl, st_own (k25 _ _ hp2), by simp, st_own hp3, d1', d2', d3', fun H26 fr26 => ?_⟩
          have sm26 : Same H22 H26 := fun b o e => fr26 b (fun z => by rw [List.mem_singleton.mp z, np2] at e; cases e) o (k25 _ _ (sm23 _ _ e))
          refine ⟨_, rfl, iteF ?_⟩
          refine ⟨_, rfl, _, rfl, .list (st.map PyData.int), .list (st.map PyData.int), .lst (SqL.of (sm26 _ _ ekp)) (dp_il _), .lst (SqL.of (sm26 _ _ hsp2)) (dp_il _), shaped_il _, shaped_il _, _, rfl, ?_⟩
          rw [eqv_lil, decide_eq_true rfl]
          exact iteF ⟨kk + n, _, _, _, _, rfl, (f20.trans f22).trans (Fr.of_same sm26), s22.same sm26, by omega⟩
      · rintro σ H20 ⟨kk, x11, x12, x13, x14, rfl, f20, s20, hkk⟩
        have hGl : H20 G = some (.lst [g1, g2, g3]) := f20 _ nG _ eG'
        have A1 := E1.fr go1 f20
        have A2 := E2.fr go2 f20
        have A3 := E3.fr go3 f20
        have AG := EG.fr gO f20
        have B1 := Q1.fr out f20
        have B2 := Q2.fr out2 f20
        have B3 := Q3.fr out3 f20
        have C1 := W1.fr wo1 f20
        have C3 := W3.fr wo3 f20
        obtain ⟨EQ, hEQ⟩ : ∃ EQ, EQ = PyData.eqv (formD m2' (FM.tab m2' (formF ms ps))) (formD m3 (FM.tab m3 (formF ms qs))) := ⟨_, rfl⟩
        have eqi : EQ = true ↔ ∀ s, s.length = n → formF ms ps s = formF ms qs s := by rw [hEQ]; exact least_eqv O O3 L1 L3 e1 e3
        refine ⟨_, rfl, G, _, _, _, rfl, rfl, SqL.of hGl, atI_nat (j := 0) rfl, _, rfl, G, _, _, _, rfl, rfl, SqL.of hGl, atI_nat (j := 1) rfl, g1, g2, n, c, ms, ns, ps, ps2, rfl, A1.dp, A2.dp, O, O2, fun H21 T1 sm21 hT1 => ?_⟩
        obtain rfl : T1 = true := hT1.mpr fun s hs => (wide s hs).symm
        have k21 := sm21
        refine ⟨_, rfl, G, _, _, _, rfl, rfl, SqL.of (k21 _ _ hGl), atI_nat (j := 1) rfl, _, rfl, G, _, _, _, rfl, rfl, SqL.of (k21 _ _ hGl), atI_nat (j := 2) rfl, g2, g3, n, c, ns, ms, ps2, qs, rfl, (A2.same k21).dp, (A3.same k21).dp, O2, O3, fun H22 T2 sm22 hT2 => ?_⟩
        obtain rfl : T2 = EQ := by
          rw [Bool.eq_iff_iff, hT2, eqi]
          exact ⟨fun h s hs => (wide s hs).symm.trans (h s hs), fun h s hs => (wide s hs).trans (h s hs)⟩
        have k22 := k21.trans sm22
        refine ⟨_, rfl, G, _, _, _, rfl, rfl, SqL.of (k22 _ _ hGl), atI_nat (j := 1) rfl, _, rfl, G, _, _, _, rfl, rfl, SqL.of (k22 _ _ hGl), atI_nat (j := 2) rfl, g3, g2, n, c, ms, ns, qs, ps2, rfl, (A3.same k22).dp, (A2.same k22).dp, O3, O2, fun H23 T3 sm23 hT3 => ⟨(by show 3 ≤ sizeLine; decide), fun FL hFL => ?_⟩⟩
        obtain rfl : T3 = T2 := by
          rw [Bool.eq_iff_iff, hT3, eqi]
          exact ⟨fun h s hs => (wide s hs).symm.trans (h s hs).symm, fun h s hs => (h s hs).symm.trans (wide s hs).symm⟩
        have k23 := k22.trans sm23
        have zF := same_new (o := .lst [V.bl true, V.bl T3, V.bl T3]) hFL
        have eFL : upd H23 FL (.lst [V.bl true, V.bl T3, V.bl T3]) FL = some (.lst [V.bl true, V.bl T3, V.bl T3]) := upd_same
        have k24 := k23.trans zF
        generalize upd H23 FL (.lst [V.bl true, V.bl T3, V.bl T3]) = H24 at *
        obtain ⟨x1', x2', x3'⟩ := fit_shown (show Fit (.list [.bool true, .bool T3, .bool T3]) from ⟨trivial, trivial, trivial, trivial⟩)
        have nb3 : nodes (.list [.bool true, .bool T3, .bool T3]) ≤ 10 := by simp [nodes, nodesAll]
        have db3 : (PyData.list [.bool true, .bool T3, .bool T3]).depth ≤ 60 := by simp [PyData.depth, PyData.depthAll]
        refine ⟨_, rfl, .ref FL, .list [.bool true, .bool T3, .bool T3], rfl, .lst (SqL.of eFL) (.cons (.bl _) (.cons (.bl _) (.cons (.bl _) .nil))), x2', x3', db3, by omega, ?_⟩
        have D1' := (C1.same k24).dp (K := K)
        have D3' := (C3.same k24).dp (K := K)
        refine ⟨_, rfl, _, rfl, _, _, D1', D3', shaped_form _ _, shaped_form _ _, ?_⟩
        rw [← hEQ]
        refine ⟨_, rfl, _, rfl, _, _, D1', D3', shaped_form _ _, shaped_form _ _, ?_⟩
        rw [← hEQ]
        refine ⟨(by show 3 ≤ sizeLine; decide), fun FM' hFM => ?_⟩
        have zM := same_new (o := .lst [V.bl true, V.bl T3, V.bl T3]) hFM
        refine ⟨.ref FM', .list [.bool true, .bool T3, .bool T3], rfl, .lst (SqL.of upd_same) (.cons (.bl _) (.cons (.bl _) (.cons (.bl _) .nil))), x2', x3', db3, by omega, rfl, _, rfl, ?_⟩
        rw [sameV]
        refine iteF ?_
        have k25 := k24.trans zM
        generalize upd H24 FM' (.lst [V.bl true, V.bl T3, V.bl T3]) = H25 at *
        refine ⟨_, rfl, (by show 1 ≤ sizeLine; decide), fun r1' hr1' => ?_⟩
        have zR := same_new (o := .lst [V.int 1]) hr1'
        have AG' := (AG.same k25).same zR
        have s25 := ((s20.same k25).same zR)
        have nr : r1' ≠ sk := fun e => (s20.same k25).ne hr1' e.symm
        refine ⟨_, .ref G, _, r1', 1, rfl, AG', r1, by omega, List.nodup_cons.mpr ⟨(AG.same k25).not hr1', ndG⟩, upd_same, fun H26 hr26 ov26 fr26 => ?_⟩
        have newG19 : ∀ b ∈ G :: (b1 ++ (b2 ++ (b3 ++ []))), H9 b = none := newG
        have keep : ∀ b, b ∉ G :: (b1 ++ (b2 ++ (b3 ++ []))) → ∀ o, H20 b = some o → H26 b = some o := fun b hb o e => fr26 b (fun w => by rw [w] at e; rw [k25 _ _ e] at hr1'; cases hr1') hb o (zR _ _ (k25 _ _ e))
        have H9has : ∀ b o, H9 b = some o → b ∉ G :: (b1 ++ (b2 ++ (b3 ++ []))) := fun b o e z => by
          rw [newG b z] at e
          cases e
        have fin1 := B1.frame fun b hb o e => keep b (by
          obtain ⟨o', e'⟩ := (o1H.same k9).has b hb
          exact H9has b o' e') o e
        have fin2 := B2.frame fun b hb o e => keep b (by
          obtain ⟨o', e'⟩ := (o2H.same k9).has b hb
          exact H9has b o' e') o e
        have fin3 := C1.frame fun b hb o e => keep b (by
          obtain ⟨o', e'⟩ := ol1H.has b hb
          exact H9has b o' e') o e
        have sfin : SackAt H26 sk kk := by
          obtain ⟨w1', w2', w3', e, rr⟩ := s20
          exact ⟨w1', w2', w3', keep sk gO _ e, rr⟩
        have Ffin : Fr sk H H26 := fun b hb o e => keep b (fun z => by
          have h9 : H9 b = some o := k9 _ _ (F7 b hb o e)
          exact H9has b o h9 z) o (f20 b hb o (FH b hb o e))
        refine ⟨_, rfl, v, n, c, ms, ps, rfl, fin1.dp, O, fun H27 t5 u5 l5 sm27 ot5 nt5 nd5 L5 e5 => ?_⟩
        obtain ⟨rfl, _⟩ := least_same O O L5 L1 e5 e1 fun _ _ => rfl
        refine ⟨_, rfl, _, _, ot5.dp, (fin3.same sm27).dp, shaped_form _ _, shaped_form _ _, ?_⟩
        rw [(eqv_intD (intD_form _ _) (intD_form _ _)).mpr rfl]
        refine ⟨_, rfl, ite2 (fun _ => ?_) (fun h => absurd rfl h)⟩
        refine ⟨_, rfl, _, rfl, u, w1, n, c, ns, l5, ps2, FM.tab l5 (formF ms ps), rfl, (fin2.same sm27).dp, (fin3.same sm27).dp, O2, P1, fun H28 B sm28 hB => ?_⟩
        have told1 : FM.Told (formF ms ps) l5 (FM.tab l5 (formF ms ps)) := FM.told_of lp1 fun i m h => (L1.atI h).2.1
        obtain rfl : B = true := hB.mpr fun s hs => (wide s hs).trans (form_tab told1 (by omega)).symm
        refine ⟨_, _, rfl, rfl, _, rfl, ite2 (fun _ => ?_) (fun h => absurd (by simp) h)⟩
        refine ⟨_, rfl, sk, kk, rfl, (sfin.same sm27).same sm28, by omega, fun H29 f29 => ?_⟩
        exact q H29 ((Ffin.trans (Fr.of_same (sm27.trans sm28))).trans f29)
    · have f4 : Fr sk H H4 := f3.trans (Fr.of_eq q4)
      have mp : 0 < m0 ∧ m0 ≤ 600 := ⟨m00, m06⟩
      refine ⟨_, rfl, _, rfl, _, rfl, ?_⟩
      refine ⟨_, rfl, (by show 2 ≤ sizeLine; decide), fun l0 hl0 => ?_⟩
      have nl0 := s4.ne hl0
      have zl0 := same_new (o := .lst [V.int (m0 : Nat), V.int 60]) hl0
      have el0 : upd H4 l0 (.lst [V.int (m0 : Nat), V.int 60]) l0 = some (.lst [V.int (m0 : Nat), V.int 60]) := upd_same
      have s5 := s4.put (o := .lst [V.int (m0 : Nat), V.int 60]) nl0
      refine ⟨_, rfl, rfl, .inr ⟨_, rfl, ?_⟩⟩
      obtain ⟨m2, hm2, m20, m26⟩ : ∃ m2 : Nat, atI [V.int (m0 : Nat), V.int 60] (if decide (V.int (m0 : Nat) = V.int 600) = true then (1 : Int) else 0) = some (V.int (m2 : Nat)) ∧ 0 < m2 ∧ m2 ≤ 600 := by
        split
        · exact ⟨60, rfl, by decide, by decide⟩
        · exact ⟨m0, rfl, mp.1, mp.2⟩
      refine ⟨l0, _, _, _, rfl, rfl, SqL.of el0, hm2, ?_⟩
      refine ⟨sk, _, n, c, m2, rfl, s5, by omega, n0, n4, c0, c4, m20, m26, fun H5 v as ms ps f5 s5' ow nw ndp O vm sml => ?_⟩
      have F5 : Fr sk H H5 := f4.trans ((Fr.of_same zl0).trans f5)
      have out := s5.out nw
      refine ⟨_, rfl, _, rfl, _, rfl, sk, v, as, _, n, c, m0, ms, ps, rfl, s5', by omega, ow, out, O, mp.2, fun H6 u bs ns f6 s6 ow2 nw2 nd2 nsl nsp nsv nsd => ?_⟩
      have out2 := s5'.out nw2
      refine ⟨_, rfl, _, rfl, sk, v, as, _, n, c, ms, ps, rfl, s6, by omega, ow.fr out f6, O, sml, fun H7 x3 cs qs f7 s7 ow3 nw3 nd3 O3 => ⟨_, _, rfl, ?_⟩⟩
      have out3 := s6.out nw3
      have O2 := O.tab nsl nsp nsv
      have F7 : Fr sk H H7 := (F5.trans f6).trans f7
      have o1 := (ow.fr out f6).fr out f7
      have o2 := ow2.fr out2 f7
      have o3 := ow3
      obtain ⟨ps2, hps2⟩ : ∃ ps2, ps2 = FM.tab ns (formF ms ps) := ⟨_, rfl⟩
      have wide : ∀ s, s.length = n → formF ns ps2 s = formF ms ps s := by rw [hps2]; exact wide_told O nsl nsp nsd
      rw [← hps2] at o2 O2
      obtain ⟨k7, hk7, s7⟩ : ∃ k7, k7 ≤ 10000 ∧ SackAt H7 sk k7 := ⟨_, by omega, s7⟩
      clear ow ow2 ow3 nw nw2 nw3 f5 f6 f7 s5 s5' s6 F5 hm2 el0 zl0
      have vv := O.vol
      have v3 := O3.vol
      have ml := O.len
      refine ⟨_, rfl, v, as, ms, ps, rfl, o1, O.pos, by omega, O.pl, by omega, O.piece, Nat.le_trans (fk_nodes O) (by decide), fun H8 w1 ws1 l1 sm8 ol1 nl1 L1 e1 => ?_⟩
      refine ⟨_, rfl, x3, cs, ms, qs, rfl, o3.same sm8, O3.pos, by omega, O3.pl, by omega, O3.piece, Nat.le_trans (fk_nodes O3) (by decide), fun H9 w3 ws3 l3 sm9 ol3 nl3 L3 e3 => ⟨_, _, rfl, ?_⟩⟩
      have k9 := sm8.trans sm9
      have o1H := o1
      have o2H := o2
      have ol1H := ol1.same sm9
      refine ⟨_, rfl, formD ms ps, v, as, rfl, o1.same k9, form_depth _ _, Nat.le_trans (fk_nodes O) (by decide), fun H10 g1 b1 sm10 og1 ng1 nd1 => ?_⟩
      refine ⟨_, rfl, formD ns ps2, u, bs, rfl, (o2.same k9).same sm10, form_depth _ _, Nat.le_trans (fk_nodes O2) (by decide), fun H11 g2 b2 sm11 og2 ng2 nd2' => ?_⟩
      refine ⟨_, rfl, formD ms qs, x3, cs, rfl, ((o3.same k9).same sm10).same sm11, form_depth _ _, Nat.le_trans (fk_nodes O3) (by decide), fun H12 g3 b3 sm12 og3 ng3 nd3' => ⟨(by show 3 ≤ sizeLine; decide), fun G hG => ?_⟩⟩
      have eG : upd H12 G (.lst [g1, g2, g3]) G = some (.lst [g1, g2, g3]) := upd_same
      have zG := same_new (o := .lst [g1, g2, g3]) hG
      have og1' := (og1.same sm11).same sm12
      have og2' := og2.same sm12
      have ownG := own_list3 og1' og2' og3 hG
      have ndG : (G :: (b1 ++ (b2 ++ (b3 ++ [])))).Nodup := nodup3 nd1 nd2' nd3' (fun b hb => og1.has b hb) ng2 (fun b hb => by
        rcases List.mem_append.mp hb with w | w
        · exact (og1.same sm11).has b w
        · exact og2.has b w) ng3 fun b hb => by
          rcases List.mem_append.mp hb with w | w
          · exact fun e => og1'.not hG (e ▸ w)
          · rcases List.mem_append.mp w with w | w
            · exact fun e => og2'.not hG (e ▸ w)
            · exact fun e => og3.not hG (e ▸ w)
      have k12 := ((k9.trans (sm10.trans (sm11.trans sm12)))).trans zG
      have p1 := (og1'.same zG)
      have p2 := (og2'.same zG)
      have p3 := (og3.same zG)
      have newG : New H9 (G :: (b1 ++ (b2 ++ (b3 ++ [])))) := fun b hb => by
        rcases List.mem_cons.mp hb with w | w
        · rw [w]; exact (sm10.trans (sm11.trans sm12)).free hG
        · rcases List.mem_append.mp w with w | w
          · exact ng1 b w
          · rcases List.mem_append.mp w with w | w
            · exact sm10.free (ng2 b w)
            · rw [List.append_nil] at w
              exact (sm10.trans sm11).free (ng3 b w)
      have kG : Same H9 (upd H12 G (.lst [g1, g2, g3])) := (sm10.trans (sm11.trans sm12)).trans zG
      generalize upd H12 G (.lst [g1, g2, g3]) = H13 at *
      obtain ⟨D1, hD1⟩ : ∃ D1, D1 = formD l1 (FM.tab l1 (formF ms ps)) := ⟨_, rfl⟩
      obtain ⟨D3, hD3⟩ : ∃ D3, D3 = formD l3 (FM.tab l3 (formF ms qs)) := ⟨_, rfl⟩
      refine ⟨_, rfl, G, _, _, _, rfl, rfl, SqL.of eG, atI_nat (j := 0) rfl, g1, n, c, ms, ps, rfl, p1.dp, O, fun H14 t1 u1 m1 sm14 ot1 nt1 ndt1 LT1 et1 => ?_⟩
      refine ⟨_, rfl, G, _, _, _, rfl, rfl, SqL.of (sm14 _ _ eG), atI_nat (j := 1) rfl, g2, n, c, ns, ps2, rfl, (p2.same sm14).dp, O2, fun H15 t2 u2 m2' sm15 ot2 nt2 ndt2 LT2 et2 => ?_⟩
      refine ⟨_, rfl, G, _, _, _, rfl, rfl, SqL.of ((sm14.trans sm15) _ _ eG), atI_nat (j := 2) rfl, g3, n, c, ms, qs, rfl, (p3.same (sm14.trans sm15)).dp, O3, fun H16 t3 u3 m3 sm16 ot3 nt3 ndt3 LT3 et3 => ⟨(by show 3 ≤ sizeLine; decide), fun TH hTH => ?_⟩⟩
      obtain ⟨rfl, _⟩ := least_same O O LT1 L1 et1 e1 fun _ _ => rfl
      obtain ⟨rfl, tb2⟩ := least_same O2 O LT2 L1 et2 e1 wide
      obtain ⟨rfl, _⟩ := least_same O3 O3 LT3 L3 et3 e3 fun _ _ => rfl
      rw [tb2] at ot2
      have ot1' := (ot1.same sm15).same sm16
      have ot2' := ot2.same sm16
      have ownT := own_list3 ot1' ot2' ot3 hTH
      have ndT : (TH :: (u1 ++ (u2 ++ (u3 ++ [])))).Nodup := nodup3 ndt1 ndt2 ndt3 (fun b hb => ot1.has b hb) nt2 (fun b hb => by
        rcases List.mem_append.mp hb with w | w
        · exact (ot1.same sm15).has b w
        · exact ot2.has b w) nt3 fun b hb => by
          rcases List.mem_append.mp hb with w | w
          · exact fun e => ot1'.not hTH (e ▸ w)
          · rcases List.mem_append.mp w with w | w
            · exact fun e => ot2'.not hTH (e ▸ w)
            · exact fun e => ot3.not hTH (e ▸ w)
      have zT := same_new (o := .lst [t1, t2, t3]) hTH
      have newT : New H13 (TH :: (u1 ++ (u2 ++ (u3 ++ [])))) := fun b hb => by
        rcases List.mem_cons.mp hb with w | w
        · rw [w]; exact (sm14.trans (sm15.trans sm16)).free hTH
        · rcases List.mem_append.mp w with w | w
          · exact nt1 b w
          · rcases List.mem_append.mp w with w | w
            · exact sm14.free (nt2 b w)
            · rw [List.append_nil] at w
              exact (sm14.trans sm15).free (nt3 b w)
      have kT : Same H13 (upd H16 TH (.lst [t1, t2, t3])) := (sm14.trans (sm15.trans sm16)).trans zT
      obtain ⟨lp1, lv1⟩ := O.least L1 e1
      obtain ⟨lp3, lv3⟩ := O3.least L3 e3
      have P1 := O.tab (ns := m2') (by omega) lp1 (by omega)
      have P3 := O3.tab (ns := m3) (by omega) lp3 (by omega)
      obtain ⟨i1, i2, i3⟩ := fk3 P1 P1 P3
      generalize upd H16 TH (.lst [t1, t2, t3]) = H17 at *
      have kOw : Same H9 H17 := kG.trans kT
      have ol1' := (ol1.same sm9).same kOw
      have ol3' := ol3.same kOw
      refine ⟨_, rfl, _, rfl, _, rfl, _, rfl, (by show 3 ≤ sizeLine; decide), fun DU hDU => ?_⟩
      have zU := same_new (o := .lst [w1, w1, w3]) hDU
      have ownU := own_list3 ol1' ol1' ol3' hDU
      refine ⟨_, _, .ref DU, _, _, rfl, ownT.same zU, ndT, ownU, i1, i2, i3, fun H18 fr18 => ?_⟩
      have sm18 : Same H13 H18 := fun b o e => fr18 b (fun z => by have := newT b z; rw [e] at this; cases this) o (zU _ _ (kT b o e))
      refine ⟨_, rfl, iteF ?_⟩
      obtain ⟨r1, r2, r3⟩ := fk3 O O2 O3
      obtain ⟨c1, c2, c3⟩ := fit_shown r3
      have big : 100 * 160000 ≤ sizeLine := by decide
      have sameV : ∀ x : V, (!decide (x = x)) = false := fun x => by simp
      have S7 := k12.trans sm18
      have lG : Dp K H18 (.ref G) (.list [formD ms ps, formD ns ps2, formD ms qs]) := .lst (SqL.of (sm18 _ _ eG)) (.cons (p1.same sm18).dp (.cons (p2.same sm18).dp (.cons (p3.same sm18).dp .nil)))
      refine ⟨_, rfl, .ref G, _, rfl, lG, c2, c3, by omega, by omega, ?_⟩
      refine ⟨_, rfl, _, rfl, _, rfl, (by show 3 ≤ sizeLine; decide), fun LS hLS => ?_⟩
      have zL := same_new (o := .lst [v, u, x3]) hLS
      have S7' := S7.trans zL
      refine ⟨.ref LS, .list [formD ms ps, formD ns ps2, formD ms qs], rfl, .lst (SqL.of upd_same) (.cons (o1.same S7').dp (.cons (o2.same S7').dp (.cons (o3.same S7').dp .nil))), c2, c3, by omega, by omega, rfl, _, rfl, ?_⟩
      rw [sameV]
      refine iteF ?_
      have kA : Same H13 (upd H18 LS (.lst [v, u, x3])) := sm18.trans zL
      generalize upd H18 LS (.lst [v, u, x3]) = H19 at *
      have gO : sk ∉ G :: (b1 ++ (b2 ++ (b3 ++ []))) := ((s7.same k9)).out newG
      have sub1 : ∀ z ∈ b1, z ∈ G :: (b1 ++ (b2 ++ (b3 ++ []))) := fun z hz => by simp [hz]
      have sub2 : ∀ z ∈ b2, z ∈ G :: (b1 ++ (b2 ++ (b3 ++ []))) := fun z hz => by simp [hz]
      have sub3 : ∀ z ∈ b3, z ∈ G :: (b1 ++ (b2 ++ (b3 ++ []))) := fun z hz => by simp [hz]
      have go1 : sk ∉ b1 := fun z => gO (sub1 _ z)
      have go2 : sk ∉ b2 := fun z => gO (sub2 _ z)
      have go3 : sk ∉ b3 := fun z => gO (sub3 _ z)
      have nG : G ≠ sk := fun e => gO (by rw [e]; simp)
      have E1 := p1.same kA
      have E2 := p2.same kA
      have E3 := p3.same kA
      have EG := ownG.same kA
      have eG' := kA _ _ eG
      have Q1 := o1.same S7'
      have Q2 := o2.same S7'
      have Q3 := o3.same S7'
      have W1 := (ol1.same sm9).same (kG.trans kA)
      have W3 := ol3.same (kG.trans kA)
      have sackN : SackAt H19 sk k7 := s7.same S7'
      have FH : Fr sk H H19 := F7.trans (Fr.of_same S7')
      have wo1 : sk ∉ ws1 := s7.out nl1
      have wo3 : sk ∉ ws3 := (s7.same sm8).out nl3
      have okL : ∀ {ms : List Nat} {ps : List (List Line)}, FK n c ms ps → ∀ rs ∈ ps, rs.length ≤ 100 ∧ ∀ l ∈ rs, LineOk ms.length l := fun O rs hrs => by
        obtain ⟨w1, w2⟩ := O.wid rs hrs
        have := O.c4
        exact ⟨by omega, fun l hl => ⟨by rw [w1 l hl, O.len], fun x hx => Nat.le_trans (O.sml rs hrs l hl x hx) (by decide)⟩⟩
      clear ol1 ol3 ol1' ol3' p1 p2 p3 o1 o2 o3 ownG ownT ownU ot1 ot2 ot3 ot1' ot2' lG eG og1 og2 og3 og1' og2'
      refine ⟨3, rfl, by decide, by decide, ?_⟩
      refine for_it (walk_range (lo := 0) (n := 3)) (fun i σ H' => ∃ (kk : Nat) (x11 x12 x13 x14 : Option V), σ = [some (.ref sk), some (.int (n : Nat)), some (.int (c : Nat)), some (.int (m0 : Nat)), some v, some u, some x3, some w1, some w3, some (.ref G), some (.ref TH), x11, x12, x13, x14, none] ∧ Fr sk H19 H' ∧ SackAt H' sk kk ∧ kk ≤ k7 + 4 * i) ⟨k7, _, _, _, _, rfl, Fr.refl, sackN, by omega⟩ (fun _ _ _ _ _ => trivial) ?_ ?_
      · rintro i x σ H20 H20' hi ⟨kk, x11, x12, x13, x14, rfl, f20, s20, hkk⟩ ⟨rfl, rfl⟩
        obtain ⟨gx, fx, bx, ax, M, N, hg, hf, Og, Of, nbx, nax, OM⟩ : ∃ (gx fx : V) (bx ax : List Addr) (M : List Nat) (N : List (List Line)), atI [g1, g2, g3] (0 + ((i : Nat) : Int)) = some gx ∧ atI [v, u, x3] (0 + ((i : Nat) : Int)) = some fx ∧ Own H20' (formD M N) gx bx ∧ Own H20' (formD M N) fx ax ∧ sk ∉ bx ∧ sk ∉ ax ∧ FK n c M N := by
          match i, hi with
          | 0, _ => exact ⟨g1, v, b1, as, ms, ps, rfl, rfl, E1.fr go1 f20, Q1.fr out f20, go1, out, O⟩
          | 1, _ => exact ⟨g2, u, b2, bs, ns, ps2, rfl, rfl, E2.fr go2 f20, Q2.fr out2 f20, go2, out2, O2⟩
          | 2, _ => exact ⟨g3, x3, b3, cs, ms, qs, rfl, rfl, E3.fr go3 f20, Q3.fr out3 f20, go3, out3, O3⟩
          | j + 3, hi => exact absurd hi (by omega)
        refine ⟨_, rfl, _, rfl, _, _, rfl, rfl, ⟨by decide, by decide, by decide⟩, (by show 3 ≤ sizeLine; decide), fun l0 hl0 => ?_⟩
        have nl0' := s20.ne hl0
        have zl0' := same_new (o := .lst [V.int 3, V.int 30, V.int (10 ^ (9 : Int).toNat)]) hl0
        have el0' : upd H20' l0 (.lst [V.int 3, V.int 30, V.int (10 ^ (9 : Int).toNat)]) l0 = some (.lst [V.int 3, V.int 30, V.int (10 ^ (9 : Int).toNat)]) := upd_same
        obtain ⟨top, htop, tb⟩ : ∃ top : Nat, atI [V.int 3, V.int 30, V.int (10 ^ (9 : Int).toNat)] (0 + ((i : Nat) : Int)) = some (V.int (top : Nat)) ∧ top ≤ 1000000000 := by
          match i, hi with
          | 0, _ => exact ⟨3, rfl, by decide⟩
          | 1, _ => exact ⟨30, rfl, by decide⟩
          | 2, _ => exact ⟨1000000000, rfl, by decide⟩
          | j + 3, hi => exact absurd hi (by omega)
        refine ⟨_, rfl, l0, _, _, _, rfl, rfl, SqL.of el0', htop, ?_⟩
        refine ⟨sk, kk, n, top, rfl, s20.same zl0', by omega, n4, tb, fun H21 sp st f21 s21 nsp hsp sl sle => ?_⟩
        have sb : ∀ x ∈ st, x.natAbs ≤ 10 ^ 9 := fun x hx => Nat.le_trans (sle x hx) tb
        have f21' : Fr sk H20' H21 := (Fr.of_same zl0').trans f21
        refine ⟨_, rfl, sp, _, rfl, .inl (SqL.of hsp), fun kp hkp => ?_⟩
        have zk := same_new (o := .lst (IL st)) hkp
        have ekp : upd H21 kp (.lst (IL st)) kp = some (.lst (IL st)) := upd_same
        have f22 : Fr sk H20' (upd H21 kp (.lst (IL st))) := f21'.trans (Fr.of_same zk)
        have hsp2 := zk _ _ hsp
        have s22 := s21.same zk
        generalize upd H21 kp (.lst (IL st)) = H22 at *
        have Og2 := Og.fr nbx f22
        have Of2 := Of.fr nax f22
        have hGl : H22 G = some (.lst [g1, g2, g3]) := f22 _ nG _ (f20 _ nG _ eG')
        refine ⟨_, rfl, _, _, rfl, rfl, _, rfl, ite2 (fun _ => ?_) (fun _ => ?_)⟩
        case' refine_1 => refine ⟨_, rfl, _, rfl, G, _, _, _, rfl, rfl, SqL.of hGl, hg, _, rfl, gx, kp, n, c, M, N, st, rfl, Og2.dp, SqL.of ekp, OM, sl, sb, fun H23 p2 sm23 np2 hp2 => ?_⟩
        case' refine_2 => refine ⟨_, rfl, _, rfl, _, rfl, G, _, _, _, rfl, rfl, SqL.of hGl, hg, gx, kp, n, c, M, N, st, rfl, Og2.dp, SqL.of ekp, OM, sl, sb, fun H23 p2 sm23 np2 hp2 => ?_⟩
        all_goals
          refine ⟨_, rfl, _, rfl, _, rfl, _, rfl, (by show 3 ≤ sizeLine; decide), fun l1' hl1' => ?_⟩
          have z1' := same_new (o := .lst [v, u, x3]) hl1'
          have k24 := sm23.trans z1'
          obtain ⟨d1', d2', d3'⟩ := res_small OM sl sb
          have OMl := OM.len
          have OMv := OM.vol
          refine ⟨_, rfl, l1', _, _, _, rfl, rfl, SqL.of upd_same, hf, _, rfl, fx, sp, M, N, st, rfl, (Of2.same k24).dp, SqL.of (k24 _ _ hsp2), OM.pos, by omega, OM.pl, by omega, by omega, sb, okL OM, fun H25 p3' sm25 np3 hp3 => ?_⟩
          have k25 := z1'.trans sm25
          refine ⟨stD ((rowsOf M N st).map (·.at st)), .ref p2, .ref p3', [p2], [p3'], rfl, st_own (k25 _ _ hp2), by simp, st_own hp3, d1', d2', d3', fun H26 fr26 => ?_⟩
          have sm26 : Same H22 H26 := fun b o e => fr26 b (fun z => by rw [List.mem_singleton.mp z, np2] at e; cases e) o (k25 _ _ (sm23 _ _ e))
          refine ⟨_, rfl, iteF ?_⟩
          refine ⟨_, rfl, _, rfl, .list (st.map PyData.int), .list (st.map PyData.int), .lst (SqL.of (sm26 _ _ ekp)) (dp_il _), .lst (SqL.of (sm26 _ _ hsp2)) (dp_il _), shaped_il _, shaped_il _, _, rfl, ?_⟩
          rw [eqv_lil, decide_eq_true rfl]
          exact iteF ⟨kk + n, _, _, _, _, rfl, (f20.trans f22).trans (Fr.of_same sm26), s22.same sm26, by omega⟩
      · rintro σ H20 ⟨kk, x11, x12, x13, x14, rfl, f20, s20, hkk⟩
        have hGl : H20 G = some (.lst [g1, g2, g3]) := f20 _ nG _ eG'
        have A1 := E1.fr go1 f20
        have A2 := E2.fr go2 f20
        have A3 := E3.fr go3 f20
        have AG := EG.fr gO f20
        have B1 := Q1.fr out f20
        have B2 := Q2.fr out2 f20
        have B3 := Q3.fr out3 f20
        have C1 := W1.fr wo1 f20
        have C3 := W3.fr wo3 f20
        obtain ⟨EQ, hEQ⟩ : ∃ EQ, EQ = PyData.eqv (formD m2' (FM.tab m2' (formF ms ps))) (formD m3 (FM.tab m3 (formF ms qs))) := ⟨_, rfl⟩
        have eqi : EQ = true ↔ ∀ s, s.length = n → formF ms ps s = formF ms qs s := by rw [hEQ]; exact least_eqv O O3 L1 L3 e1 e3
        refine ⟨_, rfl, G, _, _, _, rfl, rfl, SqL.of hGl, atI_nat (j := 0) rfl, _, rfl, G, _, _, _, rfl, rfl, SqL.of hGl, atI_nat (j := 1) rfl, g1, g2, n, c, ms, ns, ps, ps2, rfl, A1.dp, A2.dp, O, O2, fun H21 T1 sm21 hT1 => ?_⟩
        obtain rfl : T1 = true := hT1.mpr fun s hs => (wide s hs).symm
        have k21 := sm21
        refine ⟨_, rfl, G, _, _, _, rfl, rfl, SqL.of (k21 _ _ hGl), atI_nat (j := 1) rfl, _, rfl, G, _, _, _, rfl, rfl, SqL.of (k21 _ _ hGl), atI_nat (j := 2) rfl, g2, g3, n, c, ns, ms, ps2, qs, rfl, (A2.same k21).dp, (A3.same k21).dp, O2, O3, fun H22 T2 sm22 hT2 => ?_⟩
        obtain rfl : T2 = EQ := by
          rw [Bool.eq_iff_iff, hT2, eqi]
          exact ⟨fun h s hs => (wide s hs).symm.trans (h s hs), fun h s hs => (wide s hs).trans (h s hs)⟩
        have k22 := k21.trans sm22
        refine ⟨_, rfl, G, _, _, _, rfl, rfl, SqL.of (k22 _ _ hGl), atI_nat (j := 1) rfl, _, rfl, G, _, _, _, rfl, rfl, SqL.of (k22 _ _ hGl), atI_nat (j := 2) rfl, g3, g2, n, c, ms, ns, qs, ps2, rfl, (A3.same k22).dp, (A2.same k22).dp, O3, O2, fun H23 T3 sm23 hT3 => ⟨(by show 3 ≤ sizeLine; decide), fun FL hFL => ?_⟩⟩
        obtain rfl : T3 = T2 := by
          rw [Bool.eq_iff_iff, hT3, eqi]
          exact ⟨fun h s hs => (wide s hs).symm.trans (h s hs).symm, fun h s hs => (h s hs).symm.trans (wide s hs).symm⟩
        have k23 := k22.trans sm23
        have zF := same_new (o := .lst [V.bl true, V.bl T3, V.bl T3]) hFL
        have eFL : upd H23 FL (.lst [V.bl true, V.bl T3, V.bl T3]) FL = some (.lst [V.bl true, V.bl T3, V.bl T3]) := upd_same
        have k24 := k23.trans zF
        generalize upd H23 FL (.lst [V.bl true, V.bl T3, V.bl T3]) = H24 at *
        obtain ⟨x1', x2', x3'⟩ := fit_shown (show Fit (.list [.bool true, .bool T3, .bool T3]) from ⟨trivial, trivial, trivial, trivial⟩)
        have nb3 : nodes (.list [.bool true, .bool T3, .bool T3]) ≤ 10 := by simp [nodes, nodesAll]
        have db3 : (PyData.list [.bool true, .bool T3, .bool T3]).depth ≤ 60 := by simp [PyData.depth, PyData.depthAll]
        refine ⟨_, rfl, .ref FL, .list [.bool true, .bool T3, .bool T3], rfl, .lst (SqL.of eFL) (.cons (.bl _) (.cons (.bl _) (.cons (.bl _) .nil))), x2', x3', db3, by omega, ?_⟩
        have D1' := (C1.same k24).dp (K := K)
        have D3' := (C3.same k24).dp (K := K)
        refine ⟨_, rfl, _, rfl, _, _, D1', D3', shaped_form _ _, shaped_form _ _, ?_⟩
        rw [← hEQ]
        refine ⟨_, rfl, _, rfl, _, _, D1', D3', shaped_form _ _, shaped_form _ _, ?_⟩
        rw [← hEQ]
        refine ⟨(by show 3 ≤ sizeLine; decide), fun FM' hFM => ?_⟩
        have zM := same_new (o := .lst [V.bl true, V.bl T3, V.bl T3]) hFM
        refine ⟨.ref FM', .list [.bool true, .bool T3, .bool T3], rfl, .lst (SqL.of upd_same) (.cons (.bl _) (.cons (.bl _) (.cons (.bl _) .nil))), x2', x3', db3, by omega, rfl, _, rfl, ?_⟩
        rw [sameV]
        refine iteF ?_
        have k25 := k24.trans zM
        generalize upd H24 FM' (.lst [V.bl true, V.bl T3, V.bl T3]) = H25 at *
        refine ⟨_, rfl, (by show 1 ≤ sizeLine; decide), fun r1' hr1' => ?_⟩
        have zR := same_new (o := .lst [V.int 1]) hr1'
        have AG' := (AG.same k25).same zR
        have s25 := ((s20.same k25).same zR)
        have nr : r1' ≠ sk := fun e => (s20.same k25).ne hr1' e.symm
        refine ⟨_, .ref G, _, r1', 1, rfl, AG', r1, by omega, List.nodup_cons.mpr ⟨(AG.same k25).not hr1', ndG⟩, upd_same, fun H26 hr26 ov26 fr26 => ?_⟩
        have newG19 : ∀ b ∈ G :: (b1 ++ (b2 ++ (b3 ++ []))), H9 b = none := newG
        have keep : ∀ b, b ∉ G :: (b1 ++ (b2 ++ (b3 ++ []))) → ∀ o, H20 b = some o → H26 b = some o := fun b hb o e => fr26 b (fun w => by rw [w] at e; rw [k25 _ _ e] at hr1'; cases hr1') hb o (zR _ _ (k25 _ _ e))
        have H9has : ∀ b o, H9 b = some o → b ∉ G :: (b1 ++ (b2 ++ (b3 ++ []))) := fun b o e z => by
          rw [newG b z] at e
          cases e
        have fin1 := B1.frame fun b hb o e => keep b (by
          obtain ⟨o', e'⟩ := (o1H.same k9).has b hb
          exact H9has b o' e') o e
        have fin2 := B2.frame fun b hb o e => keep b (by
          obtain ⟨o', e'⟩ := (o2H.same k9).has b hb
          exact H9has b o' e') o e
        have fin3 := C1.frame fun b hb o e => keep b (by
          obtain ⟨o', e'⟩ := ol1H.has b hb
          exact H9has b o' e') o e
        have sfin : SackAt H26 sk kk := by
          obtain ⟨w1', w2', w3', e, rr⟩ := s20
          exact ⟨w1', w2', w3', keep sk gO _ e, rr⟩
        have Ffin : Fr sk H H26 := fun b hb o e => keep b (fun z => by
          have h9 : H9 b = some o := k9 _ _ (F7 b hb o e)
          exact H9has b o h9 z) o (f20 b hb o (FH b hb o e))
        refine ⟨_, rfl, v, n, c, ms, ps, rfl, fin1.dp, O, fun H27 t5 u5 l5 sm27 ot5 nt5 nd5 L5 e5 => ?_⟩
        obtain ⟨rfl, _⟩ := least_same O O L5 L1 e5 e1 fun _ _ => rfl
        refine ⟨_, rfl, _, _, ot5.dp, (fin3.same sm27).dp, shaped_form _ _, shaped_form _ _, ?_⟩
        rw [(eqv_intD (intD_form _ _) (intD_form _ _)).mpr rfl]
        refine ⟨_, rfl, ite2 (fun _ => ?_) (fun h => absurd rfl h)⟩
        refine ⟨_, rfl, _, rfl, u, w1, n, c, ns, l5, ps2, FM.tab l5 (formF ms ps), rfl, (fin2.same sm27).dp, (fin3.same sm27).dp, O2, P1, fun H28 B sm28 hB => ?_⟩
        have told1 : FM.Told (formF ms ps) l5 (FM.tab l5 (formF ms ps)) := FM.told_of lp1 fun i m h => (L1.atI h).2.1
        obtain rfl : B = true := hB.mpr fun s hs => (wide s hs).trans (form_tab told1 (by omega)).symm
        refine ⟨_, _, rfl, rfl, _, rfl, ite2 (fun _ => ?_) (fun h => absurd (by simp) h)⟩
        refine ⟨_, rfl, sk, kk, rfl, (sfin.same sm27).same sm28, by omega, fun H29 f29 => ?_⟩
        exact q H29 ((Ffin.trans (Fr.of_same (sm27.trans sm28))).trans f29)
end
end K09

set_option Elab.async false
set_option linter.all false
set_option maxRecDepth 100000
set_option maxHeartbeats 8000000
set_option exponentiation.threshold 5000
namespace K09
open PySem L2 DL PySem.HouseX CM
def spLaw (K : PySem.W.Frag) : Sp := fun vs H Q _ => ∃ (a : Addr) (ns : List Int), vs = [.ref a] ∧ SqL K H a (ns.map V.int) ∧ ns.length ≤ 63 ∧ ∀ H', Q (.bl true) H'
section
variable {P : Program} {w : World} {K : PySem.W.Frag} {mg : Str → Option Value} {base : Heap} {fS fR : Addr} {fdS fdR : FuncData}
theorem scLaw : FnScope ["_law_script", "_law_rank"] ["_law_script"] (defScope sLLaw) := ⟨rfl, rfl, rfl, by decide +kernel, rfl, by decide +kernel, by decide +kernel⟩
theorem ok_law {f : Addr} {fd : FuncData} (F : Fun K "law" "law" sLLaw f fd) (T : TxtN K mg) (rng : mg "range" = none) (gS : mg "_law_hd_sack" = some (.ref fS)) (gR : mg "_law_right" = some (.ref fR))
    (GS : FnOk P w K mg base CX0 1 fS fdS ["_law_script", "_law_rank"] (spSack K)) (kS : PySem.W.keepIn K (.ref fS) = true) (bS : Binds K fdS ["_law_script", "_law_rank"] [])
    (GR : FnG P w K mg base 10 fR fdR ["_law_sack"] spRight) (kR : PySem.W.keepIn K (.ref fR) = true) (bR : Binds K fdR ["_law_sack"] []) : FnG P w K mg base 11 f fd ["_law_script"] (spLaw K) := by
  refine F.okG scLaw (fun vs H Q E h => ?_) (fun cdv A outer s H vs Q E hgd hr h => ?_)
  · obtain ⟨a, ns, rfl, _⟩ := h
    rfl
  · obtain ⟨a, ns, rfl, hS, hl, k⟩ := h
    have r1 : Room 1 _ := hr.mono (by decide)
    refine ⟨_, pss_cons (ps_for PassesOwn.never rfl (pi_range1 rfl rng (pa_cons (pe_callB (call_max2 rfl) (by rfl) T.max (by decide +kernel) (pa_cons pe_int (pa_cons (pe_callB (call_min2 rfl) (by rfl) T.min (by decide +kernel) (pa_cons pe_int
          (pa_cons (pe_callB call_len_seq (by rfl) T.len PySem.boot_len (pa_cons (pv 0) pa_nil)) pa_nil))) pa_nil))) pa_nil)) (pg_name (i := 1) scLaw.nd rfl (Or.inl rfl))
        (pss_one (ps_if (pt_not (pt_val (pe_callG GR hgd hr rfl gR kR bR (pa_cons (pe_call GS r1 rfl gS kS bS .nil pass0 (pa_cons (pv 0) (pa_cons (pv 1) pa_nil))) pa_nil)))) (pss_one (ps_ret pe_bl)) pss_nil)))
      (pss_one (ps_ret pe_bl)), ?_⟩
    refine ⟨_, rfl, a, _, rfl, .inl hS, _, _, rfl, _, _, rfl, ?_⟩
    have few : (ns.map V.int).length ≤ 63 := by
      rw [List.length_map]
      exact hl
    obtain ⟨N, hN⟩ : ∃ N : Int, (if (if (((ns.map V.int).length : Nat) : Int) < 4 then (((ns.map V.int).length : Nat) : Int) else 4) > 1 then (if (((ns.map V.int).length : Nat) : Int) < 4 then (((ns.map V.int).length : Nat) : Int) else 4) else 1) = N := ⟨_, rfl⟩
    have N0 : 1 ≤ N ∧ N ≤ 4 := by
      rw [← hN]
      split <;> split <;> omega
    rw [hN]
    refine ⟨N, rfl, by omega, by omega, ?_⟩
    refine for_range (lo := 0) (n := N.toNat) (fun i σ H' => (∃ x1 : Option V, σ = [some (.ref a), x1]) ∧ Same H H') ⟨⟨none, rfl⟩, Same.refl _⟩ ?_ ?_
    · rintro i σ H' hi ⟨⟨x1, rfl⟩, sm⟩
      refine ⟨_, rfl, _, rfl, a, ns, i, congrArg (fun z : Int => [V.ref a, V.int z]) (Int.zero_add _), sm.seq hS, by omega, by omega, fun H2 p hp sm2 _ hsk => ?_⟩
      refine ⟨p, rfl, hsk, fun H3 fr => ⟨_, rfl, iteF ?_⟩⟩
      refine ⟨⟨_, rfl⟩, sm.trans fun b o e => fr b (ne_of_none e hp) o (sm2 b o e)⟩
    · rintro σ H' ⟨⟨x1, rfl⟩, sm⟩
      exact k H'
end
theorem kbinds2 {K : PySem.W.Frag} {fd : FuncData} {ps ks : List Str} (hp : ps.length = 2) (h : ∀ a b : Value, bindArgs fd ⟨[], ks.zip [a, b]⟩ = pure (ps.zip [b, a])) : KBinds K fd ps ks gSw gSw where
  to := fun s us ws _ hl => by
    rw [hp] at hl
    match us, ws, hl with
    | [], [a, b], _ => exact .of_eq (h a b)
  rel := fun {vs us zs ws} r q => by
    cases r with
    | cons _ _ => exact .nil
    | nil =>
      cases q with
      | nil => exact .nil
      | cons a q =>
        cases q with
        | nil => exact .nil
        | cons b q =>
          cases q with
          | nil => exact .cons b (.cons a .nil)
          | cons _ _ => exact .nil
theorem kbinds1 {K : PySem.W.Frag} {fd : FuncData} {ps ks : List Str} (hp : ps.length = 1) (h : ∀ a : Value, bindArgs fd ⟨[], ks.zip [a]⟩ = pure (ps.zip [a])) : KBinds K fd ps ks gOne gOne where
  to := fun s us ws _ hl => by
    rw [hp] at hl
    match us, ws, hl with
    | [], [a], _ => exact .of_eq (h a)
  rel := fun {vs us zs ws} r q => by
    cases r with
    | cons _ _ => exact .nil
    | nil =>
      cases q with
      | nil => exact .nil
      | cons a q =>
        cases q with
        | nil => exact .cons a .nil
        | cons _ _ => exact .nil
theorem kbinds3 {K : PySem.W.Frag} {fd : FuncData} {ps ks : List Str} (hp : ps.length = 3) (h : ∀ a b c : Value, bindArgs fd ⟨[], ks.zip [a, b, c]⟩ = pure (ps.zip [c, b, a])) : KBinds K fd ps ks gRev gRev where
  to := fun s us ws _ hl => by
    rw [hp] at hl
    match us, ws, hl with
    | [], [a, b, c], _ => exact .of_eq (h a b c)
  rel := fun {vs us zs ws} r q => by
    cases r with
    | cons _ _ => exact .nil
    | nil =>
      cases q with
      | nil => exact .nil
      | cons a q =>
        cases q with
        | nil => exact .nil
        | cons b q =>
          cases q with
          | nil => exact .nil
          | cons c q =>
            cases q with
            | nil => exact .cons c (.cons b (.cons a .nil))
            | cons _ _ => exact .nil
theorem all_mk {l : PySem.W.OpenLaw} {w : World} {K : PySem.W.Frag} {h : Heap} {mg : Str → Option Value} {fa : Addr} (X : K.In h) (G : h.Ns mainGlobals mg) (hfa : mg "law" = some (.ref fa))
    {g0 g1 g2 g3 g4 g5 g6 g7 g8 g9 g10 g11 g12 g13 g14 g15 g16 g17 g18 g19 g20 g21 g22 g23 g24 g25 g26 g27 g28 g29 g30 g31 g32 g33 g34 g35 g36 g37 g38 g39 g40 g41 g42 g43 g44 g45 g46 g47 g48 : Addr}
    {oc_0 dc_0 pm_0 cd_0 ct_0 kV_0 : Value} {od_0 an_0 : Option Addr} {sl_0 : Array (Option Value)}
    {oc_1 dc_1 pm_1 cd_1 ct_1 kV_1 : Value} {od_1 an_1 : Option Addr} {sl_1 : Array (Option Value)}
    {oc_2 dc_2 pm_2 cd_2 ct_2 kV_2 : Value} {od_2 an_2 : Option Addr} {sl_2 : Array (Option Value)}
    {oc_3 dc_3 pm_3 cd_3 ct_3 kV_3 : Value} {od_3 an_3 : Option Addr} {sl_3 : Array (Option Value)}
    {oc_4 dc_4 pm_4 cd_4 ct_4 kV_4 : Value} {od_4 an_4 : Option Addr} {sl_4 : Array (Option Value)}
    {oc_5 dc_5 pm_5 cd_5 ct_5 kV_5 : Value} {od_5 an_5 : Option Addr} {sl_5 : Array (Option Value)}
    {oc_6 dc_6 pm_6 cd_6 ct_6 kV_6 : Value} {od_6 an_6 : Option Addr} {sl_6 : Array (Option Value)}
    {oc_7 dc_7 pm_7 cd_7 ct_7 kV_7 : Value} {od_7 an_7 : Option Addr} {sl_7 : Array (Option Value)}
    {oc_8 dc_8 pm_8 cd_8 ct_8 kV_8 : Value} {od_8 an_8 : Option Addr} {sl_8 : Array (Option Value)}
    {oc_9 dc_9 pm_9 cd_9 ct_9 kV_9 : Value} {od_9 an_9 : Option Addr} {sl_9 : Array (Option Value)}
    {oc_10 dc_10 pm_10 cd_10 ct_10 kV_10 : Value} {od_10 an_10 : Option Addr} {sl_10 : Array (Option Value)}
    {oc_11 dc_11 pm_11 cd_11 ct_11 kV_11 : Value} {od_11 an_11 : Option Addr} {sl_11 : Array (Option Value)}
    {oc_12 dc_12 pm_12 cd_12 ct_12 kV_12 : Value} {od_12 an_12 : Option Addr} {sl_12 : Array (Option Value)}
    {oc_13 dc_13 pm_13 cd_13 ct_13 kV_13 : Value} {od_13 an_13 : Option Addr} {sl_13 : Array (Option Value)}
    {oc_14 dc_14 pm_14 cd_14 ct_14 kV_14 : Value} {od_14 an_14 : Option Addr} {sl_14 : Array (Option Value)}
    {oc_15 dc_15 pm_15 cd_15 ct_15 kV_15 : Value} {od_15 an_15 : Option Addr} {sl_15 : Array (Option Value)}
    {oc_16 dc_16 pm_16 cd_16 ct_16 kV_16 : Value} {od_16 an_16 : Option Addr} {sl_16 : Array (Option Value)}
    {oc_17 dc_17 pm_17 cd_17 ct_17 kV_17 : Value} {od_17 an_17 : Option Addr} {sl_17 : Array (Option Value)}
    {oc_18 dc_18 pm_18 cd_18 ct_18 kV_18 : Value} {od_18 an_18 : Option Addr} {sl_18 : Array (Option Value)}
    {oc_19 dc_19 pm_19 cd_19 ct_19 kV_19 : Value} {od_19 an_19 : Option Addr} {sl_19 : Array (Option Value)}
    {oc_20 dc_20 pm_20 cd_20 ct_20 kV_20 : Value} {od_20 an_20 : Option Addr} {sl_20 : Array (Option Value)}
    {oc_21 dc_21 pm_21 cd_21 ct_21 kV_21 : Value} {od_21 an_21 : Option Addr} {sl_21 : Array (Option Value)}
    {oc_22 dc_22 pm_22 cd_22 ct_22 kV_22 : Value} {od_22 an_22 : Option Addr} {sl_22 : Array (Option Value)}
    {oc_23 dc_23 pm_23 cd_23 ct_23 kV_23 : Value} {od_23 an_23 : Option Addr} {sl_23 : Array (Option Value)}
    {oc_24 dc_24 pm_24 cd_24 ct_24 kV_24 : Value} {od_24 an_24 : Option Addr} {sl_24 : Array (Option Value)}
    {oc_25 dc_25 pm_25 cd_25 ct_25 kV_25 : Value} {od_25 an_25 : Option Addr} {sl_25 : Array (Option Value)}
    {oc_26 dc_26 pm_26 cd_26 ct_26 kV_26 : Value} {od_26 an_26 : Option Addr} {sl_26 : Array (Option Value)}
    {oc_27 dc_27 pm_27 cd_27 ct_27 kV_27 : Value} {od_27 an_27 : Option Addr} {sl_27 : Array (Option Value)}
    {oc_28 dc_28 pm_28 cd_28 ct_28 kV_28 : Value} {od_28 an_28 : Option Addr} {sl_28 : Array (Option Value)}
    {oc_29 dc_29 pm_29 cd_29 ct_29 kV_29 : Value} {od_29 an_29 : Option Addr} {sl_29 : Array (Option Value)}
    {oc_30 dc_30 pm_30 cd_30 ct_30 kV_30 : Value} {od_30 an_30 : Option Addr} {sl_30 : Array (Option Value)}
    {oc_31 dc_31 pm_31 cd_31 ct_31 kV_31 : Value} {od_31 an_31 : Option Addr} {sl_31 : Array (Option Value)}
    {oc_32 dc_32 pm_32 cd_32 ct_32 kV_32 : Value} {od_32 an_32 : Option Addr} {sl_32 : Array (Option Value)}
    {oc_33 dc_33 pm_33 cd_33 ct_33 kV_33 : Value} {od_33 an_33 : Option Addr} {sl_33 : Array (Option Value)}
    {oc_34 dc_34 pm_34 cd_34 ct_34 kV_34 : Value} {od_34 an_34 : Option Addr} {sl_34 : Array (Option Value)}
    {oc_35 dc_35 pm_35 cd_35 ct_35 kV_35 : Value} {od_35 an_35 : Option Addr} {sl_35 : Array (Option Value)}
    {oc_36 dc_36 pm_36 cd_36 ct_36 kV_36 : Value} {od_36 an_36 : Option Addr} {sl_36 : Array (Option Value)}
    {oc_37 dc_37 pm_37 cd_37 ct_37 kV_37 : Value} {od_37 an_37 : Option Addr} {sl_37 : Array (Option Value)}
    {oc_38 dc_38 pm_38 cd_38 ct_38 kV_38 : Value} {od_38 an_38 : Option Addr} {sl_38 : Array (Option Value)}
    {oc_39 dc_39 pm_39 cd_39 ct_39 kV_39 : Value} {od_39 an_39 : Option Addr} {sl_39 : Array (Option Value)}
    {oc_40 dc_40 pm_40 cd_40 ct_40 kV_40 : Value} {od_40 an_40 : Option Addr} {sl_40 : Array (Option Value)}
    {oc_41 dc_41 pm_41 cd_41 ct_41 kV_41 : Value} {od_41 an_41 : Option Addr} {sl_41 : Array (Option Value)}
    {oc_42 dc_42 pm_42 cd_42 ct_42 kV_42 : Value} {od_42 an_42 : Option Addr} {sl_42 : Array (Option Value)}
    {oc_43 dc_43 pm_43 cd_43 ct_43 kV_43 : Value} {od_43 an_43 : Option Addr} {sl_43 : Array (Option Value)}
    {oc_44 dc_44 pm_44 cd_44 ct_44 kV_44 : Value} {od_44 an_44 : Option Addr} {sl_44 : Array (Option Value)}
    {oc_45 dc_45 pm_45 cd_45 ct_45 kV_45 : Value} {od_45 an_45 : Option Addr} {sl_45 : Array (Option Value)}
    {oc_46 dc_46 pm_46 cd_46 ct_46 kV_46 : Value} {od_46 an_46 : Option Addr} {sl_46 : Array (Option Value)}
    {oc_47 dc_47 pm_47 cd_47 ct_47 kV_47 : Value} {od_47 an_47 : Option Addr} {sl_47 : Array (Option Value)}
    {oc_48 dc_48 pm_48 cd_48 ct_48 kV_48 : Value} {od_48 an_48 : Option Addr} {sl_48 : Array (Option Value)}
    (d0 : PySem.W.nsIn K mainGlobals "_law_hd_sack" = some (some (.ref g0)))
    (e0 : K.lookup g0 = some ⟨oc_0, od_0, .func (PySem.W.fnOf "_law_hd_sack" "_law_hd_sack" (defArgs sSack) (defBody sSack) (defScope sSack) .none kV_0 dc_0 pm_0 an_0 cd_0 ct_0), sl_0⟩)
    (c_0 : PySem.W.codeIn K cd_0 "_law_hd_sack" = true)
    (k_0 : PySem.W.keepIn K (.ref g0) = true)
    (d1 : PySem.W.nsIn K mainGlobals "_law_hd_pick" = some (some (.ref g1)))
    (e1 : K.lookup g1 = some ⟨oc_1, od_1, .func (PySem.W.fnOf "_law_hd_pick" "_law_hd_pick" (defArgs sPick) (defBody sPick) (defScope sPick) .none kV_1 dc_1 pm_1 an_1 cd_1 ct_1), sl_1⟩)
    (c_1 : PySem.W.codeIn K cd_1 "_law_hd_pick" = true)
    (k_1 : PySem.W.keepIn K (.ref g1) = true)
    (d2 : PySem.W.nsIn K mainGlobals "check_state" = some (some (.ref g2)))
    (e2 : K.lookup g2 = some ⟨oc_2, od_2, .func (PySem.W.fnOf "check_state" "check_state" (defArgs sChkState) (defBody sChkState) (defScope sChkState) .none kV_2 dc_2 pm_2 an_2 cd_2 ct_2), sl_2⟩)
    (c_2 : PySem.W.codeIn K cd_2 "check_state" = true)
    (k_2 : PySem.W.keepIn K (.ref g2) = true)
    (d3 : PySem.W.nsIn K mainGlobals "check_index" = some (some (.ref g3)))
    (e3 : K.lookup g3 = some ⟨oc_3, od_3, .func (PySem.W.fnOf "check_index" "check_index" (defArgs sChkIndex) (defBody sChkIndex) (defScope sChkIndex) .none kV_3 dc_3 pm_3 an_3 cd_3 ct_3), sl_3⟩)
    (c_3 : PySem.W.codeIn K cd_3 "check_index" = true)
    (k_3 : PySem.W.keepIn K (.ref g3) = true)
    (d4 : PySem.W.nsIn K mainGlobals "copied" = some (some (.ref g4)))
    (e4 : K.lookup g4 = some ⟨oc_4, od_4, .func (PySem.W.fnOf "copied" "copied" (defArgs sCopied) (defBody sCopied) (defScope sCopied) .none kV_4 dc_4 pm_4 an_4 cd_4 ct_4), sl_4⟩)
    (c_4 : PySem.W.codeIn K cd_4 "copied" = true)
    (k_4 : PySem.W.keepIn K (.ref g4) = true)
    (d5 : PySem.W.nsIn K mainGlobals "product_of" = some (some (.ref g5)))
    (e5 : K.lookup g5 = some ⟨oc_5, od_5, .func (PySem.W.fnOf "product_of" "product_of" (defArgs sProd) (defBody sProd) (defScope sProd) .none kV_5 dc_5 pm_5 an_5 cd_5 ct_5), sl_5⟩)
    (c_5 : PySem.W.codeIn K cd_5 "product_of" = true)
    (k_5 : PySem.W.keepIn K (.ref g5) = true)
    (d6 : PySem.W.nsIn K mainGlobals "place_of" = some (some (.ref g6)))
    (e6 : K.lookup g6 = some ⟨oc_6, od_6, .func (PySem.W.fnOf "place_of" "place_of" (defArgs sPlaceOf) (defBody sPlaceOf) (defScope sPlaceOf) .none kV_6 dc_6 pm_6 an_6 cd_6 ct_6), sl_6⟩)
    (c_6 : PySem.W.codeIn K cd_6 "place_of" = true)
    (k_6 : PySem.W.keepIn K (.ref g6) = true)
    (d7 : PySem.W.nsIn K mainGlobals "prime_factors" = some (some (.ref g7)))
    (e7 : K.lookup g7 = some ⟨oc_7, od_7, .func (PySem.W.fnOf "prime_factors" "prime_factors" (defArgs sPrimes) (defBody sPrimes) (defScope sPrimes) .none kV_7 dc_7 pm_7 an_7 cd_7 ct_7), sl_7⟩)
    (c_7 : PySem.W.codeIn K cd_7 "prime_factors" = true)
    (k_7 : PySem.W.keepIn K (.ref g7) = true)
    (d8 : PySem.W.nsIn K mainGlobals "comes_again" = some (some (.ref g8)))
    (e8 : K.lookup g8 = some ⟨oc_8, od_8, .func (PySem.W.fnOf "comes_again" "comes_again" (defArgs sComes) (defBody sComes) (defScope sComes) .none kV_8 dc_8 pm_8 an_8 cd_8 ct_8), sl_8⟩)
    (c_8 : PySem.W.codeIn K cd_8 "comes_again" = true)
    (k_8 : PySem.W.keepIn K (.ref g8) = true)
    (d9 : PySem.W.nsIn K mainGlobals "least_way" = some (some (.ref g9)))
    (e9 : K.lookup g9 = some ⟨oc_9, od_9, .func (PySem.W.fnOf "least_way" "least_way" (defArgs sLeastW) (defBody sLeastW) (defScope sLeastW) .none kV_9 dc_9 pm_9 an_9 cd_9 ct_9), sl_9⟩)
    (c_9 : PySem.W.codeIn K cd_9 "least_way" = true)
    (k_9 : PySem.W.keepIn K (.ref g9) = true)
    (d10 : PySem.W.nsIn K mainGlobals "table_of" = some (some (.ref g10)))
    (e10 : K.lookup g10 = some ⟨oc_10, od_10, .func (PySem.W.fnOf "table_of" "table_of" (defArgs sTableOf) (defBody sTableOf) (defScope sTableOf) .none kV_10 dc_10 pm_10 an_10 cd_10 ct_10), sl_10⟩)
    (c_10 : PySem.W.codeIn K cd_10 "table_of" = true)
    (k_10 : PySem.W.keepIn K (.ref g10) = true)
    (d11 : PySem.W.nsIn K mainGlobals "rows_of" = some (some (.ref g11)))
    (e11 : K.lookup g11 = some ⟨oc_11, od_11, .func (PySem.W.fnOf "rows_of" "rows_of" (defArgs sRowsOf) (defBody sRowsOf) (defScope sRowsOf) .none kV_11 dc_11 pm_11 an_11 cd_11 ct_11), sl_11⟩)
    (c_11 : PySem.W.codeIn K cd_11 "rows_of" = true)
    (k_11 : PySem.W.keepIn K (.ref g11) = true)
    (d12 : PySem.W.nsIn K mainGlobals "form_of_table" = some (some (.ref g12)))
    (e12 : K.lookup g12 = some ⟨oc_12, od_12, .func (PySem.W.fnOf "form_of_table" "form_of_table" (defArgs sFormOfT) (defBody sFormOfT) (defScope sFormOfT) .none kV_12 dc_12 pm_12 an_12 cd_12 ct_12), sl_12⟩)
    (c_12 : PySem.W.codeIn K cd_12 "form_of_table" = true)
    (k_12 : PySem.W.keepIn K (.ref g12) = true)
    (d13 : PySem.W.nsIn K mainGlobals "piece_of_rows" = some (some (.ref g13)))
    (e13 : K.lookup g13 = some ⟨oc_13, od_13, .func (PySem.W.fnOf "piece_of_rows" "piece_of_rows" (defArgs sPieceOfR) (defBody sPieceOfR) (defScope sPieceOfR) .none kV_13 dc_13 pm_13 an_13 cd_13 ct_13), sl_13⟩)
    (c_13 : PySem.W.codeIn K cd_13 "piece_of_rows" = true)
    (k_13 : PySem.W.keepIn K (.ref g13) = true)
    (d14 : PySem.W.nsIn K mainGlobals "row_at" = some (some (.ref g14)))
    (e14 : K.lookup g14 = some ⟨oc_14, od_14, .func (PySem.W.fnOf "row_at" "row_at" (defArgs sRowAt) (defBody sRowAt) (defScope sRowAt) .none kV_14 dc_14 pm_14 an_14 cd_14 ct_14), sl_14⟩)
    (c_14 : PySem.W.codeIn K cd_14 "row_at" = true)
    (k_14 : PySem.W.keepIn K (.ref g14) = true)
    (d15 : PySem.W.nsIn K mainGlobals "rows_at" = some (some (.ref g15)))
    (e15 : K.lookup g15 = some ⟨oc_15, od_15, .func (PySem.W.fnOf "rows_at" "rows_at" (defArgs sRowsAt) (defBody sRowsAt) (defScope sRowsAt) .none kV_15 dc_15 pm_15 an_15 cd_15 ct_15), sl_15⟩)
    (c_15 : PySem.W.codeIn K cd_15 "rows_at" = true)
    (k_15 : PySem.W.keepIn K (.ref g15) = true)
    (d16 : PySem.W.nsIn K mainGlobals "is_form" = some (some (.ref g16)))
    (e16 : K.lookup g16 = some ⟨oc_16, od_16, .func (PySem.W.fnOf "is_form" "is_form" (defArgs sIsForm) (defBody sIsForm) (defScope sIsForm) .none kV_16 dc_16 pm_16 an_16 cd_16 ct_16), sl_16⟩)
    (c_16 : PySem.W.codeIn K cd_16 "is_form" = true)
    (k_16 : PySem.W.keepIn K (.ref g16) = true)
    (d17 : PySem.W.nsIn K mainGlobals "is_piece" = some (some (.ref g17)))
    (e17 : K.lookup g17 = some ⟨oc_17, od_17, .func (PySem.W.fnOf "is_piece" "is_piece" (defArgs sIsPiece) (defBody sIsPiece) (defScope sIsPiece) .none kV_17 dc_17 pm_17 an_17 cd_17 ct_17), sl_17⟩)
    (c_17 : PySem.W.codeIn K cd_17 "is_piece" = true)
    (k_17 : PySem.W.keepIn K (.ref g17) = true)
    (d18 : PySem.W.nsIn K mainGlobals "accounts_in_form" = some (some (.ref g18)))
    (e18 : K.lookup g18 = some ⟨oc_18, od_18, .func (PySem.W.fnOf "accounts_in_form" "accounts_in_form" (defArgs sAccIn) (defBody sAccIn) (defScope sAccIn) .none kV_18 dc_18 pm_18 an_18 cd_18 ct_18), sl_18⟩)
    (c_18 : PySem.W.codeIn K cd_18 "accounts_in_form" = true)
    (k_18 : PySem.W.keepIn K (.ref g18) = true)
    (d19 : PySem.W.nsIn K mainGlobals "results_in_form" = some (some (.ref g19)))
    (e19 : K.lookup g19 = some ⟨oc_19, od_19, .func (PySem.W.fnOf "results_in_form" "results_in_form" (defArgs sResIn) (defBody sResIn) (defScope sResIn) .none kV_19 dc_19 pm_19 an_19 cd_19 ct_19), sl_19⟩)
    (c_19 : PySem.W.codeIn K cd_19 "results_in_form" = true)
    (k_19 : PySem.W.keepIn K (.ref g19) = true)
    (d20 : PySem.W.nsIn K mainGlobals "check_form" = some (some (.ref g20)))
    (e20 : K.lookup g20 = some ⟨oc_20, od_20, .func (PySem.W.fnOf "check_form" "check_form" (defArgs sCheckF) (defBody sCheckF) (defScope sCheckF) .none kV_20 dc_20 pm_20 an_20 cd_20 ct_20), sl_20⟩)
    (c_20 : PySem.W.codeIn K cd_20 "check_form" = true)
    (k_20 : PySem.W.keepIn K (.ref g20) = true)
    (d21 : PySem.W.nsIn K mainGlobals "hangs" = some (some (.ref g21)))
    (e21 : K.lookup g21 = some ⟨oc_21, od_21, .func (PySem.W.fnOf "hangs" "hangs" (defArgs sHangs) (defBody sHangs) (defScope sHangs) .none kV_21 dc_21 pm_21 an_21 cd_21 ct_21), sl_21⟩)
    (c_21 : PySem.W.codeIn K cd_21 "hangs" = true)
    (k_21 : PySem.W.keepIn K (.ref g21) = true)
    (d22 : PySem.W.nsIn K mainGlobals "least" = some (some (.ref g22)))
    (e22 : K.lookup g22 = some ⟨oc_22, od_22, .func (PySem.W.fnOf "least" "least" (defArgs sLeast) (defBody sLeast) (defScope sLeast) .none kV_22 dc_22 pm_22 an_22 cd_22 ct_22), sl_22⟩)
    (c_22 : PySem.W.codeIn K cd_22 "least" = true)
    (k_22 : PySem.W.keepIn K (.ref g22) = true)
    (d23 : PySem.W.nsIn K mainGlobals "at" = some (some (.ref g23)))
    (e23 : K.lookup g23 = some ⟨oc_23, od_23, .func (PySem.W.fnOf "at" "at" (defArgs sAt) (defBody sAt) (defScope sAt) .none kV_23 dc_23 pm_23 an_23 cd_23 ct_23), sl_23⟩)
    (c_23 : PySem.W.codeIn K cd_23 "at" = true)
    (k_23 : PySem.W.keepIn K (.ref g23) = true)
    (d24 : PySem.W.nsIn K mainGlobals "alike" = some (some (.ref g24)))
    (e24 : K.lookup g24 = some ⟨oc_24, od_24, .func (PySem.W.fnOf "alike" "alike" (defArgs sAlike) (defBody sAlike) (defScope sAlike) .none kV_24 dc_24 pm_24 an_24 cd_24 ct_24), sl_24⟩)
    (c_24 : PySem.W.codeIn K cd_24 "alike" = true)
    (k_24 : PySem.W.keepIn K (.ref g24) = true)
    (d25 : PySem.W.nsIn K mainGlobals "is_plain" = some (some (.ref g25)))
    (e25 : K.lookup g25 = some ⟨oc_25, od_25, .func (PySem.W.fnOf "is_plain" "is_plain" (defArgs sIsPlain) (defBody sIsPlain) (defScope sIsPlain) .none kV_25 dc_25 pm_25 an_25 cd_25 ct_25), sl_25⟩)
    (c_25 : PySem.W.codeIn K cd_25 "is_plain" = true)
    (k_25 : PySem.W.keepIn K (.ref g25) = true)
    (d26 : PySem.W.nsIn K mainGlobals "matrices" = some (some (.ref g26)))
    (e26 : K.lookup g26 = some ⟨oc_26, od_26, .func (PySem.W.fnOf "matrices" "matrices" (defArgs sMatrices) (defBody sMatrices) (defScope sMatrices) .none kV_26 dc_26 pm_26 an_26 cd_26 ct_26), sl_26⟩)
    (c_26 : PySem.W.codeIn K cd_26 "matrices" = true)
    (k_26 : PySem.W.keepIn K (.ref g26) = true)
    (d27 : PySem.W.nsIn K mainGlobals "hangs_on" = some (some (.ref g27)))
    (e27 : K.lookup g27 = some ⟨oc_27, od_27, .func (PySem.W.fnOf "hangs_on" "hangs_on" (defArgs sHangsOn) (defBody sHangsOn) (defScope sHangsOn) .none kV_27 dc_27 pm_27 an_27 cd_27 ct_27), sl_27⟩)
    (c_27 : PySem.W.codeIn K cd_27 "hangs_on" = true)
    (k_27 : PySem.W.keepIn K (.ref g27) = true)
    (d28 : PySem.W.nsIn K mainGlobals "check_both" = some (some (.ref g28)))
    (e28 : K.lookup g28 = some ⟨oc_28, od_28, .func (PySem.W.fnOf "check_both" "check_both" (defArgs sCheckB) (defBody sCheckB) (defScope sCheckB) .none kV_28 dc_28 pm_28 an_28 cd_28 ct_28), sl_28⟩)
    (c_28 : PySem.W.codeIn K cd_28 "check_both" = true)
    (k_28 : PySem.W.keepIn K (.ref g28) = true)
    (d29 : PySem.W.nsIn K mainGlobals "_law_hd_copy" = some (some (.ref g29)))
    (e29 : K.lookup g29 = some ⟨oc_29, od_29, .func (PySem.W.fnOf "_law_hd_copy" "_law_hd_copy" (defArgs sLCopy) (defBody sLCopy) (defScope sLCopy) .none kV_29 dc_29 pm_29 an_29 cd_29 ct_29), sl_29⟩)
    (c_29 : PySem.W.codeIn K cd_29 "_law_hd_copy" = true)
    (k_29 : PySem.W.keepIn K (.ref g29) = true)
    (d30 : PySem.W.nsIn K mainGlobals "_law_hd_ranks" = some (some (.ref g30)))
    (e30 : K.lookup g30 = some ⟨oc_30, od_30, .func (PySem.W.fnOf "_law_hd_ranks" "_law_hd_ranks" (defArgs sRanks) (defBody sRanks) (defScope sRanks) .none kV_30 dc_30 pm_30 an_30 cd_30 ct_30), sl_30⟩)
    (c_30 : PySem.W.codeIn K cd_30 "_law_hd_ranks" = true)
    (k_30 : PySem.W.keepIn K (.ref g30) = true)
    (d31 : PySem.W.nsIn K mainGlobals "_law_hd_same" = some (some (.ref g31)))
    (e31 : K.lookup g31 = some ⟨oc_31, od_31, .func (PySem.W.fnOf "_law_hd_same" "_law_hd_same" (defArgs sSame) (defBody sSame) (defScope sSame) .none kV_31 dc_31 pm_31 an_31 cd_31 ct_31), sl_31⟩)
    (c_31 : PySem.W.codeIn K cd_31 "_law_hd_same" = true)
    (k_31 : PySem.W.keepIn K (.ref g31) = true)
    (d32 : PySem.W.nsIn K mainGlobals "_law_hd_state" = some (some (.ref g32)))
    (e32 : K.lookup g32 = some ⟨oc_32, od_32, .func (PySem.W.fnOf "_law_hd_state" "_law_hd_state" (defArgs sLState) (defBody sLState) (defScope sLState) .none kV_32 dc_32 pm_32 an_32 cd_32 ct_32), sl_32⟩)
    (c_32 : PySem.W.codeIn K cd_32 "_law_hd_state" = true)
    (k_32 : PySem.W.keepIn K (.ref g32) = true)
    (d33 : PySem.W.nsIn K mainGlobals "_law_hd_rests" = some (some (.ref g33)))
    (e33 : K.lookup g33 = some ⟨oc_33, od_33, .func (PySem.W.fnOf "_law_hd_rests" "_law_hd_rests" (defArgs sLRests) (defBody sLRests) (defScope sLRests) .none kV_33 dc_33 pm_33 an_33 cd_33 ct_33), sl_33⟩)
    (c_33 : PySem.W.codeIn K cd_33 "_law_hd_rests" = true)
    (k_33 : PySem.W.keepIn K (.ref g33) = true)
    (d34 : PySem.W.nsIn K mainGlobals "_law_hd_piece" = some (some (.ref g34)))
    (e34 : K.lookup g34 = some ⟨oc_34, od_34, .func (PySem.W.fnOf "_law_hd_piece" "_law_hd_piece" (defArgs sLPiece) (defBody sLPiece) (defScope sLPiece) .none kV_34 dc_34 pm_34 an_34 cd_34 ct_34), sl_34⟩)
    (c_34 : PySem.W.codeIn K cd_34 "_law_hd_piece" = true)
    (k_34 : PySem.W.keepIn K (.ref g34) = true)
    (d35 : PySem.W.nsIn K mainGlobals "_law_hd_at" = some (some (.ref g35)))
    (e35 : K.lookup g35 = some ⟨oc_35, od_35, .func (PySem.W.fnOf "_law_hd_at" "_law_hd_at" (defArgs sLAt) (defBody sLAt) (defScope sLAt) .none kV_35 dc_35 pm_35 an_35 cd_35 ct_35), sl_35⟩)
    (c_35 : PySem.W.codeIn K cd_35 "_law_hd_at" = true)
    (k_35 : PySem.W.keepIn K (.ref g35) = true)
    (d36 : PySem.W.nsIn K mainGlobals "_law_hd_is_period" = some (some (.ref g36)))
    (e36 : K.lookup g36 = some ⟨oc_36, od_36, .func (PySem.W.fnOf "_law_hd_is_period" "_law_hd_is_period" (defArgs sLPeriod) (defBody sLPeriod) (defScope sLPeriod) .none kV_36 dc_36 pm_36 an_36 cd_36 ct_36), sl_36⟩)
    (c_36 : PySem.W.codeIn K cd_36 "_law_hd_is_period" = true)
    (k_36 : PySem.W.keepIn K (.ref g36) = true)
    (d37 : PySem.W.nsIn K mainGlobals "_law_hd_moved" = some (some (.ref g37)))
    (e37 : K.lookup g37 = some ⟨oc_37, od_37, .func (PySem.W.fnOf "_law_hd_moved" "_law_hd_moved" (defArgs sLMoved) (defBody sLMoved) (defScope sLMoved) .none kV_37 dc_37 pm_37 an_37 cd_37 ct_37), sl_37⟩)
    (c_37 : PySem.W.codeIn K cd_37 "_law_hd_moved" = true)
    (k_37 : PySem.W.keepIn K (.ref g37) = true)
    (d38 : PySem.W.nsIn K mainGlobals "_law_hd_moduli" = some (some (.ref g38)))
    (e38 : K.lookup g38 = some ⟨oc_38, od_38, .func (PySem.W.fnOf "_law_hd_moduli" "_law_hd_moduli" (defArgs sLModuli) (defBody sLModuli) (defScope sLModuli) .none kV_38 dc_38 pm_38 an_38 cd_38 ct_38), sl_38⟩)
    (c_38 : PySem.W.codeIn K cd_38 "_law_hd_moduli" = true)
    (k_38 : PySem.W.keepIn K (.ref g38) = true)
    (d39 : PySem.W.nsIn K mainGlobals "_law_hd_drawn_piece" = some (some (.ref g39)))
    (e39 : K.lookup g39 = some ⟨oc_39, od_39, .func (PySem.W.fnOf "_law_hd_drawn_piece" "_law_hd_drawn_piece" (defArgs sLDrawnP) (defBody sLDrawnP) (defScope sLDrawnP) .none kV_39 dc_39 pm_39 an_39 cd_39 ct_39), sl_39⟩)
    (c_39 : PySem.W.codeIn K cd_39 "_law_hd_drawn_piece" = true)
    (k_39 : PySem.W.keepIn K (.ref g39) = true)
    (d40 : PySem.W.nsIn K mainGlobals "_law_hd_drawn_form" = some (some (.ref g40)))
    (e40 : K.lookup g40 = some ⟨oc_40, od_40, .func (PySem.W.fnOf "_law_hd_drawn_form" "_law_hd_drawn_form" (defArgs sLDrawnF) (defBody sLDrawnF) (defScope sLDrawnF) .none kV_40 dc_40 pm_40 an_40 cd_40 ct_40), sl_40⟩)
    (c_40 : PySem.W.codeIn K cd_40 "_law_hd_drawn_form" = true)
    (k_40 : PySem.W.keepIn K (.ref g40) = true)
    (d41 : PySem.W.nsIn K mainGlobals "_law_hd_told_with" = some (some (.ref g41)))
    (e41 : K.lookup g41 = some ⟨oc_41, od_41, .func (PySem.W.fnOf "_law_hd_told_with" "_law_hd_told_with" (defArgs sLToldW) (defBody sLToldW) (defScope sLToldW) .none kV_41 dc_41 pm_41 an_41 cd_41 ct_41), sl_41⟩)
    (c_41 : PySem.W.codeIn K cd_41 "_law_hd_told_with" = true)
    (k_41 : PySem.W.keepIn K (.ref g41) = true)
    (d42 : PySem.W.nsIn K mainGlobals "_law_hd_least" = some (some (.ref g42)))
    (e42 : K.lookup g42 = some ⟨oc_42, od_42, .func (PySem.W.fnOf "_law_hd_least" "_law_hd_least" (defArgs sLLeast) (defBody sLLeast) (defScope sLLeast) .none kV_42 dc_42 pm_42 an_42 cd_42 ct_42), sl_42⟩)
    (c_42 : PySem.W.codeIn K cd_42 "_law_hd_least" = true)
    (k_42 : PySem.W.keepIn K (.ref g42) = true)
    (d43 : PySem.W.nsIn K mainGlobals "_law_hd_widened" = some (some (.ref g43)))
    (e43 : K.lookup g43 = some ⟨oc_43, od_43, .func (PySem.W.fnOf "_law_hd_widened" "_law_hd_widened" (defArgs sLWidened) (defBody sLWidened) (defScope sLWidened) .none kV_43 dc_43 pm_43 an_43 cd_43 ct_43), sl_43⟩)
    (c_43 : PySem.W.codeIn K cd_43 "_law_hd_widened" = true)
    (k_43 : PySem.W.keepIn K (.ref g43) = true)
    (d44 : PySem.W.nsIn K mainGlobals "_law_hd_hangs" = some (some (.ref g44)))
    (e44 : K.lookup g44 = some ⟨oc_44, od_44, .func (PySem.W.fnOf "_law_hd_hangs" "_law_hd_hangs" (defArgs sLHangs) (defBody sLHangs) (defScope sLHangs) .none kV_44 dc_44 pm_44 an_44 cd_44 ct_44), sl_44⟩)
    (c_44 : PySem.W.codeIn K cd_44 "_law_hd_hangs" = true)
    (k_44 : PySem.W.keepIn K (.ref g44) = true)
    (d45 : PySem.W.nsIn K mainGlobals "_law_hd_hangs_right" = some (some (.ref g45)))
    (e45 : K.lookup g45 = some ⟨oc_45, od_45, .func (PySem.W.fnOf "_law_hd_hangs_right" "_law_hd_hangs_right" (defArgs sLHangsR) (defBody sLHangsR) (defScope sLHangsR) .none kV_45 dc_45 pm_45 an_45 cd_45 ct_45), sl_45⟩)
    (c_45 : PySem.W.codeIn K cd_45 "_law_hd_hangs_right" = true)
    (k_45 : PySem.W.keepIn K (.ref g45) = true)
    (d46 : PySem.W.nsIn K mainGlobals "_law_hd_changed_form" = some (some (.ref g46)))
    (e46 : K.lookup g46 = some ⟨oc_46, od_46, .func (PySem.W.fnOf "_law_hd_changed_form" "_law_hd_changed_form" (defArgs sLChanged) (defBody sLChanged) (defScope sLChanged) .none kV_46 dc_46 pm_46 an_46 cd_46 ct_46), sl_46⟩)
    (c_46 : PySem.W.codeIn K cd_46 "_law_hd_changed_form" = true)
    (k_46 : PySem.W.keepIn K (.ref g46) = true)
    (d47 : PySem.W.nsIn K mainGlobals "_law_right" = some (some (.ref g47)))
    (e47 : K.lookup g47 = some ⟨oc_47, od_47, .func (PySem.W.fnOf "_law_right" "_law_right" (defArgs sLRight) (defBody sLRight) (defScope sLRight) .none kV_47 dc_47 pm_47 an_47 cd_47 ct_47), sl_47⟩)
    (c_47 : PySem.W.codeIn K cd_47 "_law_right" = true)
    (k_47 : PySem.W.keepIn K (.ref g47) = true)
    (d48 : PySem.W.nsIn K mainGlobals "law" = some (some (.ref g48)))
    (e48 : K.lookup g48 = some ⟨oc_48, od_48, .func (PySem.W.fnOf "law" "law" (defArgs sLLaw) (defBody sLLaw) (defScope sLLaw) .none kV_48 dc_48 pm_48 an_48 cd_48 ct_48), sl_48⟩)
    (c_48 : PySem.W.codeIn K cd_48 "law" = true)
    (k_48 : PySem.W.keepIn K (.ref g48) = true)
    (z_len : PySem.W.nsIn K mainGlobals "len" = some none)
    (z_max : PySem.W.nsIn K mainGlobals "max" = some none)
    (z_min : PySem.W.nsIn K mainGlobals "min" = some none)
    (z_abs : PySem.W.nsIn K mainGlobals "abs" = some none)
    (z_int : PySem.W.nsIn K mainGlobals "int" = some none)
    (z_isinstance : PySem.W.nsIn K mainGlobals "isinstance" = some none)
    (z_range : PySem.W.nsIn K mainGlobals "range" = some none)
    (z_list : PySem.W.nsIn K mainGlobals "list" = some none)
    (z_tuple : PySem.W.nsIn K mainGlobals "tuple" = some none)
    (z_repr : PySem.W.nsIn K mainGlobals "repr" = some none)
    (z_sum : PySem.W.nsIn K mainGlobals "sum" = some none)
    (z_all : PySem.W.nsIn K mainGlobals "all" = some none)
    (z_any : PySem.W.nsIn K mainGlobals "any" = some none)
    (z_zip : PySem.W.nsIn K mainGlobals "zip" = some none)
    (z_reversed : PySem.W.nsIn K mainGlobals "reversed" = some none)
    (z_enumerate : PySem.W.nsIn K mainGlobals "enumerate" = some none) :
    ∃ fd : FuncData, (∀ (s : Shared) (v : Value), BindsTo s fd ⟨[v], []⟩ [("_law_script", v)]) ∧ ∀ base : Heap, K.In base → base.Ns mainGlobals mg → FnG l.prog w K mg base 11 fa fd ["_law_script"] (spLaw K) := by
  have e := hfa.symm.trans (PySem.W.mg_of X G d48)
  cases e
  have n_len := PySem.W.mg_none_of X G z_len
  have n_max := PySem.W.mg_none_of X G z_max
  have n_min := PySem.W.mg_none_of X G z_min
  have n_abs := PySem.W.mg_none_of X G z_abs
  have n_int := PySem.W.mg_none_of X G z_int
  have n_isinstance := PySem.W.mg_none_of X G z_isinstance
  have n_range := PySem.W.mg_none_of X G z_range
  have n_list := PySem.W.mg_none_of X G z_list
  have n_tuple := PySem.W.mg_none_of X G z_tuple
  have n_repr := PySem.W.mg_none_of X G z_repr
  have n_sum := PySem.W.mg_none_of X G z_sum
  have n_all := PySem.W.mg_none_of X G z_all
  have n_any := PySem.W.mg_none_of X G z_any
  have n_zip := PySem.W.mg_none_of X G z_zip
  have n_reversed := PySem.W.mg_none_of X G z_reversed
  have n_enumerate := PySem.W.mg_none_of X G z_enumerate
  have TN : TxtN K mg := ⟨n_len, n_max, n_min, n_abs, n_int⟩
  have F0 := fun_mk (st := sSack) e0 c_0 k_0
  have F1 := fun_mk (st := sPick) e1 c_1 k_1
  have F2 := fun_mk (st := sChkState) e2 c_2 k_2
  have F3 := fun_mk (st := sChkIndex) e3 c_3 k_3
  have F4 := fun_mk (st := sCopied) e4 c_4 k_4
  have F5 := fun_mk (st := sProd) e5 c_5 k_5
  have F6 := fun_mk (st := sPlaceOf) e6 c_6 k_6
  have F7 := fun_mk (st := sPrimes) e7 c_7 k_7
  have F8 := fun_mk (st := sComes) e8 c_8 k_8
  have F9 := fun_mk (st := sLeastW) e9 c_9 k_9
  have F10 := fun_mk (st := sTableOf) e10 c_10 k_10
  have F11 := fun_mk (st := sRowsOf) e11 c_11 k_11
  have F12 := fun_mk (st := sFormOfT) e12 c_12 k_12
  have F13 := fun_mk (st := sPieceOfR) e13 c_13 k_13
  have F14 := fun_mk (st := sRowAt) e14 c_14 k_14
  have F15 := fun_mk (st := sRowsAt) e15 c_15 k_15
  have F16 := fun_mk (st := sIsForm) e16 c_16 k_16
  have F17 := fun_mk (st := sIsPiece) e17 c_17 k_17
  have F18 := fun_mk (st := sAccIn) e18 c_18 k_18
  have F19 := fun_mk (st := sResIn) e19 c_19 k_19
  have F20 := fun_mk (st := sCheckF) e20 c_20 k_20
  have F21 := fun_mk (st := sHangs) e21 c_21 k_21
  have F22 := fun_mk (st := sLeast) e22 c_22 k_22
  have F23 := fun_mk (st := sAt) e23 c_23 k_23
  have F24 := fun_mk (st := sAlike) e24 c_24 k_24
  have F25 := fun_mk (st := sIsPlain) e25 c_25 k_25
  have F26 := fun_mk (st := sMatrices) e26 c_26 k_26
  have F27 := fun_mk (st := sHangsOn) e27 c_27 k_27
  have F28 := fun_mk (st := sCheckB) e28 c_28 k_28
  have F29 := fun_mk (st := sLCopy) e29 c_29 k_29
  have F30 := fun_mk (st := sRanks) e30 c_30 k_30
  have F31 := fun_mk (st := sSame) e31 c_31 k_31
  have F32 := fun_mk (st := sLState) e32 c_32 k_32
  have F33 := fun_mk (st := sLRests) e33 c_33 k_33
  have F34 := fun_mk (st := sLPiece) e34 c_34 k_34
  have F35 := fun_mk (st := sLAt) e35 c_35 k_35
  have F36 := fun_mk (st := sLPeriod) e36 c_36 k_36
  have F37 := fun_mk (st := sLMoved) e37 c_37 k_37
  have F38 := fun_mk (st := sLModuli) e38 c_38 k_38
  have F39 := fun_mk (st := sLDrawnP) e39 c_39 k_39
  have F40 := fun_mk (st := sLDrawnF) e40 c_40 k_40
  have F41 := fun_mk (st := sLToldW) e41 c_41 k_41
  have F42 := fun_mk (st := sLLeast) e42 c_42 k_42
  have F43 := fun_mk (st := sLWidened) e43 c_43 k_43
  have F44 := fun_mk (st := sLHangs) e44 c_44 k_44
  have F45 := fun_mk (st := sLHangsR) e45 c_45 k_45
  have F46 := fun_mk (st := sLChanged) e46 c_46 k_46
  have F47 := fun_mk (st := sLRight) e47 c_47 k_47
  have F48 := fun_mk (st := sLLaw) e48 c_48 k_48
  have b0 := F0.binds (ps := ["_law_script", "_law_rank"]) fun _ _ _ _ _ _ us hl => match us, hl with | [_, _], _ => rfl
  have b1 := F1.binds (ps := ["_law_sack", "_law_many"]) fun _ _ _ _ _ _ us hl => match us, hl with | [_, _], _ => rfl
  have b2 := F2.binds (ps := ["many", "state"]) fun _ _ _ _ _ _ us hl => match us, hl with | [_, _], _ => rfl
  have b3 := F3.binds (ps := ["index", "many"]) fun _ _ _ _ _ _ us hl => match us, hl with | [_, _], _ => rfl
  have b4 := F4.binds (ps := ["thing"]) fun _ _ _ _ _ _ us hl => match us, hl with | [_], _ => rfl
  have b5 := F5.binds (ps := ["numbers"]) fun _ _ _ _ _ _ us hl => match us, hl with | [_], _ => rfl
  have b6 := F6.binds (ps := ["moduli", "state"]) fun _ _ _ _ _ _ us hl => match us, hl with | [_, _], _ => rfl
  have b7 := F7.binds (ps := ["number"]) fun _ _ _ _ _ _ us hl => match us, hl with | [_], _ => rfl
  have b8 := F8.binds (ps := ["pieces", "block", "step"]) fun _ _ _ _ _ _ us hl => match us, hl with | [_, _, _], _ => rfl
  have b9 := F9.binds (ps := ["moduli", "pieces"]) fun _ _ _ _ _ _ us hl => match us, hl with | [_, _], _ => rfl
  have b10 := F10.binds (ps := ["form"]) fun _ _ _ _ _ _ us hl => match us, hl with | [_], _ => rfl
  have b11 := F11.binds (ps := ["piece"]) fun _ _ _ _ _ _ us hl => match us, hl with | [_], _ => rfl
  have b12 := F12.binds (ps := ["table"]) fun _ _ _ _ _ _ us hl => match us, hl with | [_], _ => rfl
  have b13 := F13.binds (ps := ["rows"]) fun _ _ _ _ _ _ us hl => match us, hl with | [_], _ => rfl
  have b14 := F14.binds (ps := ["row", "state"]) fun _ _ _ _ _ _ us hl => match us, hl with | [_, _], _ => rfl
  have b15 := F15.binds (ps := ["rows", "state"]) fun _ _ _ _ _ _ us hl => match us, hl with | [_, _], _ => rfl
  have b16 := F16.binds (ps := ["form", "accounts", "results"]) fun _ _ _ _ _ _ us hl => match us, hl with | [_, _, _], _ => rfl
  have b17 := F17.binds (ps := ["piece", "accounts", "results"]) fun _ _ _ _ _ _ us hl => match us, hl with | [_, _, _], _ => rfl
  have b18 := F18.binds (ps := ["form"]) fun _ _ _ _ _ _ us hl => match us, hl with | [_], _ => rfl
  have b19 := F19.binds (ps := ["form"]) fun _ _ _ _ _ _ us hl => match us, hl with | [_], _ => rfl
  have b20 := F20.binds (ps := ["form"]) fun _ _ _ _ _ _ us hl => match us, hl with | [_], _ => rfl
  have b21 := F21.binds (ps := ["sheet", "index"]) fun _ _ _ _ _ _ us hl => match us, hl with | [_, _], _ => rfl
  have b22 := F22.binds (ps := ["form"]) fun _ _ _ _ _ _ us hl => match us, hl with | [_], _ => rfl
  have b23 := F23.binds (ps := ["form", "state"]) fun _ _ _ _ _ _ us hl => match us, hl with | [_, _], _ => rfl
  have b24 := F24.binds (ps := ["one", "other"]) fun _ _ _ _ _ _ us hl => match us, hl with | [_, _], _ => rfl
  have b25 := F25.binds (ps := ["form"]) fun _ _ _ _ _ _ us hl => match us, hl with | [_], _ => rfl
  have b26 := F26.binds (ps := ["form"]) fun _ _ _ _ _ _ us hl => match us, hl with | [_], _ => rfl
  have b27 := F27.binds (ps := ["form", "result", "account"]) fun _ _ _ _ _ _ us hl => match us, hl with | [_, _, _], _ => rfl
  have b28 := F28.binds (ps := ["one", "other"]) fun _ _ _ _ _ _ us hl => match us, hl with | [_, _], _ => rfl
  have b29 := F29.binds (ps := ["_law_thing"]) fun _ _ _ _ _ _ us hl => match us, hl with | [_], _ => rfl
  have b30 := F30.binds (ps := ["_law_thing", "_law_ranks"]) fun _ _ _ _ _ _ us hl => match us, hl with | [_, _], _ => rfl
  have b31 := F31.binds (ps := ["_law_answer", "_law_due"]) fun _ _ _ _ _ _ us hl => match us, hl with | [_, _], _ => rfl
  have b32 := F32.binds (ps := ["_law_sack", "_law_many", "_law_top"]) fun _ _ _ _ _ _ us hl => match us, hl with | [_, _, _], _ => rfl
  have b33 := F33.binds (ps := ["_law_moduli"]) fun _ _ _ _ _ _ us hl => match us, hl with | [_], _ => rfl
  have b34 := F34.binds (ps := ["_law_form", "_law_state_here"]) fun _ _ _ _ _ _ us hl => match us, hl with | [_, _], _ => rfl
  have b35 := F35.binds (ps := ["_law_form", "_law_state_here"]) fun _ _ _ _ _ _ us hl => match us, hl with | [_, _], _ => rfl
  have b36 := F36.binds (ps := ["_law_form", "_law_rank", "_law_part"]) fun _ _ _ _ _ _ us hl => match us, hl with | [_, _, _], _ => rfl
  have b37 := F37.binds (ps := ["_law_state_here", "_law_rank", "_law_amount"]) fun _ _ _ _ _ _ us hl => match us, hl with | [_, _, _], _ => rfl
  have b38 := F38.binds (ps := ["_law_sack", "_law_many", "_law_top"]) fun _ _ _ _ _ _ us hl => match us, hl with | [_, _, _], _ => rfl
  have b39 := F39.binds (ps := ["_law_sack", "_law_many", "_law_results", "_law_top"]) fun _ _ _ _ _ _ us hl => match us, hl with | [_, _, _, _], _ => rfl
  have b40 := F40.binds (ps := ["_law_sack", "_law_many", "_law_results", "_law_most"]) fun _ _ _ _ _ _ us hl => match us, hl with | [_, _, _, _], _ => rfl
  have b41 := F41.binds (ps := ["_law_form", "_law_moduli"]) fun _ _ _ _ _ _ us hl => match us, hl with | [_, _], _ => rfl
  have b42 := F42.binds (ps := ["_law_form"]) fun _ _ _ _ _ _ us hl => match us, hl with | [_], _ => rfl
  have b43 := F43.binds (ps := ["_law_sack", "_law_form", "_law_most"]) fun _ _ _ _ _ _ us hl => match us, hl with | [_, _, _], _ => rfl
  have b44 := F44.binds (ps := ["_law_form", "_law_result", "_law_rank"]) fun _ _ _ _ _ _ us hl => match us, hl with | [_, _, _], _ => rfl
  have b45 := F45.binds (ps := ["_law_sack"]) fun _ _ _ _ _ _ us hl => match us, hl with | [_], _ => rfl
  have b46 := F46.binds (ps := ["_law_sack", "_law_form"]) fun _ _ _ _ _ _ us hl => match us, hl with | [_, _], _ => rfl
  have b47 := F47.binds (ps := ["_law_sack"]) fun _ _ _ _ _ _ us hl => match us, hl with | [_], _ => rfl
  have sL : KBinds K (PySem.W.fnOf "least" "least" (defArgs sLeast) (defBody sLeast) (defScope sLeast) .none kV_22 dc_22 pm_22 an_22 cd_22 ct_22) ["form"] ["form"] gOne gOne := kbinds1 rfl fun _ => rfl
  have sM : KBinds K (PySem.W.fnOf "matrices" "matrices" (defArgs sMatrices) (defBody sMatrices) (defScope sMatrices) .none kV_26 dc_26 pm_26 an_26 cd_26 ct_26) ["form"] ["form"] gOne gOne := kbinds1 rfl fun _ => rfl
  have sI : KBinds K (PySem.W.fnOf "is_plain" "is_plain" (defArgs sIsPlain) (defBody sIsPlain) (defScope sIsPlain) .none kV_25 dc_25 pm_25 an_25 cd_25 ct_25) ["form"] ["form"] gOne gOne := kbinds1 rfl fun _ => rfl
  have sA : KBinds K (PySem.W.fnOf "at" "at" (defArgs sAt) (defBody sAt) (defScope sAt) .none kV_23 dc_23 pm_23 an_23 cd_23 ct_23) ["form", "state"] ["state", "form"] gSw gSw := kbinds2 rfl fun _ _ => rfl
  have sE : KBinds K (PySem.W.fnOf "alike" "alike" (defArgs sAlike) (defBody sAlike) (defScope sAlike) .none kV_24 dc_24 pm_24 an_24 cd_24 ct_24) ["one", "other"] ["other", "one"] gSw gSw := kbinds2 rfl fun _ _ => rfl
  have sO : KBinds K (PySem.W.fnOf "hangs_on" "hangs_on" (defArgs sHangsOn) (defBody sHangsOn) (defScope sHangsOn) .none kV_27 dc_27 pm_27 an_27 cd_27 ct_27) ["form", "result", "account"] ["account", "result", "form"] gRev gRev := kbinds3 rfl fun _ _ _ => rfl
  refine ⟨PySem.W.fnOf "law" "law" (defArgs sLLaw) (defBody sLLaw) (defScope sLLaw) .none kV_48 dc_48 pm_48 an_48 cd_48 ct_48, fun s v => .of_eq rfl, fun base _ _ => ?_⟩
  have oSack := ok_sack (P := l.prog) (w := w) (base := base) F0 TN 
  have oPick := ok_pick (P := l.prog) (w := w) (base := base) F1 TN 
  have oChkState := ok_chks (P := l.prog) (w := w) (base := base) F2 n_len 
  have oChkIndex := ok_chki (P := l.prog) (w := w) (mg := mg) (base := base) F3  
  have oCopied := ok_Copied (P := l.prog) (w := w) (base := base) F4 ⟨n_isinstance, n_list, n_tuple, (PySem.W.mg_of X G d4)⟩ b4 3
  have oProd := ok_prod (P := l.prog) (w := w) (mg := mg) (base := base) F5  
  have oPlaceOf := ok_placeof (P := l.prog) (w := w) (base := base) F6 n_zip 
  have oPrimes := ok_primes (P := l.prog) (w := w) (mg := mg) (base := base) F7  
  have oComes := ok_comes (P := l.prog) (w := w) (base := base) F8 ⟨n_all, n_len, n_range⟩ 
  have oLeastW := ok_leastw (P := l.prog) (w := w) (base := base) F9 ⟨n_len, n_range, n_reversed, (PySem.W.mg_of X G d7), (PySem.W.mg_of X G d8)⟩ oPrimes k_7 b7 oComes k_8 b8
  have oRowsOf := ok_rowsof (P := l.prog) (w := w) (base := base) F11 ⟨n_tuple, n_zip⟩ 
  have oTableOf := ok_tableof (P := l.prog) (w := w) (base := base) F10 ⟨n_tuple, (PySem.W.mg_of X G d9), (PySem.W.mg_of X G d11)⟩ oLeastW k_9 b9 oRowsOf k_11 b11
  have oPieceOfR := ok_pieceof (P := l.prog) (w := w) (base := base) F13 n_list 
  have oFormOfT := ok_formof (P := l.prog) (w := w) (base := base) F12 n_list (PySem.W.mg_of X G d13) oPieceOfR k_13 b13
  have oRowAt := ok_rowat (P := l.prog) (w := w) (base := base) F14 ⟨n_zip, n_sum⟩ 
  have oRowsAt := ok_rowsat (P := l.prog) (w := w) (base := base) F15 ⟨n_tuple, (PySem.W.mg_of X G d14)⟩ oRowAt k_14 b14
  have T29 : TxtG29 mg g17 g5 := ⟨n_len, n_all, n_min, (PySem.W.mg_of X G d17), (PySem.W.mg_of X G d5)⟩
  have oIsPiece := ok_ispiece (P := l.prog) (w := w) (base := base) F17 T29 
  have oIsForm := ok_isform (P := l.prog) (w := w) (base := base) F16 T29 oIsPiece k_17 b17 oProd k_5 b5
  have oAccIn := ok_accin (P := l.prog) (w := w) (base := base) F18 n_len 
  have oResIn := ok_resin (P := l.prog) (w := w) (base := base) F19 n_len 
  have TB : TxtNB mg g18 g19 g16 g20 g28 := ⟨(PySem.W.mg_of X G d18), (PySem.W.mg_of X G d19), (PySem.W.mg_of X G d16), (PySem.W.mg_of X G d20), (PySem.W.mg_of X G d28)⟩
  have oCheckF := ok_checkf (P := l.prog) (w := w) (base := base) F20 TB oAccIn k_18 b18 oResIn k_19 b19 oIsForm k_16 b16
  have oCheckB := ok_checkb (P := l.prog) (w := w) (base := base) F28 TB oAccIn k_18 b18 oResIn k_19 b19 oCheckF k_20 b20
  have T1 : TxtP1 mg g13 g20 g10 g12 := ⟨n_len, n_list, (PySem.W.mg_of X G d13), (PySem.W.mg_of X G d20), (PySem.W.mg_of X G d10), (PySem.W.mg_of X G d12)⟩
  have oLeast := ok_least (P := l.prog) (w := w) (base := base) F22 T1 oCheckF k_20 b20 oTableOf k_10 b10 oFormOfT k_12 b12
  have oAt := ok_at (P := l.prog) (w := w) (base := base) F23 ⟨n_list, (PySem.W.mg_of X G d20), (PySem.W.mg_of X G d18), (PySem.W.mg_of X G d2), (PySem.W.mg_of X G d15), (PySem.W.mg_of X G d11), (PySem.W.mg_of X G d6)⟩ oCheckF k_20 b20 oAccIn k_18 b18 oChkState k_2 b2 oRowsAt k_15 b15 oRowsOf k_11 b11 oPlaceOf k_6 b6
  have T3 : TxtP3 mg g20 g28 g10 g4 := ⟨n_max, (PySem.W.mg_of X G d20), (PySem.W.mg_of X G d28), (PySem.W.mg_of X G d10), (PySem.W.mg_of X G d4)⟩
  have oAlike := ok_alike (P := l.prog) (w := w) (base := base) F24 T3 oCheckB k_28 b28 oTableOf k_10 b10
  have oIsPlain := ok_plain (P := l.prog) (w := w) (base := base) F25 T3 oCheckF k_20 b20 oTableOf k_10 b10
  have oMatrices := ok_mats (P := l.prog) (w := w) (base := base) F26 T3 oCheckF k_20 b20 oCopied k_4 b4
  have oHangs := ok_hangs (P := l.prog) (w := w) (base := base) F21 n_any 
  have oHangsOn := ok_hangson (P := l.prog) (w := w) (base := base) F27 ⟨n_any, n_tuple, (PySem.W.mg_of X G d20), (PySem.W.mg_of X G d3), (PySem.W.mg_of X G d18), (PySem.W.mg_of X G d19), (PySem.W.mg_of X G d11), (PySem.W.mg_of X G d9), (PySem.W.mg_of X G d21)⟩ oCheckF k_20 b20 oChkIndex k_3 b3 oAccIn k_18 b18 oResIn k_19 b19 oRowsOf k_11 b11 oLeastW k_9 b9 oHangs k_21 b21
  have oCp := fun n => ok_LCopy (P := l.prog) (w := w) (base := base) F29 ⟨n_isinstance, n_list, n_tuple, (PySem.W.mg_of X G d29)⟩ b29 n
  have oRanks := ok_Ranks (P := l.prog) (w := w) (base := base) F30 ⟨n_isinstance, n_list, n_tuple, (PySem.W.mg_of X G d30)⟩ b30 6
  have oSame := ok_Same (P := l.prog) (w := w) (base := base) 6 (by decide) F31 ⟨n_repr, (PySem.W.mg_of X G d29), (PySem.W.mg_of X G d30)⟩ (oCp 6) k_29 b29 oRanks k_30 b30
  have oLRests := ok_lrests (P := l.prog) (w := w) (base := base) F33 n_range 
  have oLPiece := ok_lpiece (P := l.prog) (w := w) (base := base) F34 ⟨n_zip, n_int⟩ 
  have oLPieceO := ok_lpieceO (P := l.prog) (w := w) (base := base) F34 ⟨n_zip, n_int⟩ 
  have oLAt := ok_lat (P := l.prog) (w := w) (base := base) F35 ⟨n_zip, n_list, n_sum, n_enumerate, (PySem.W.mg_of X G d34)⟩ oLPiece k_34 b34
  have oLMoved := ok_lmoved (P := l.prog) (w := w) (base := base) F37 n_list 
  have oLPeriod := ok_lperiod (P := l.prog) (w := w) (base := base) F36 ⟨n_zip, n_int, (PySem.W.mg_of X G d37), (PySem.W.mg_of X G d34), (PySem.W.mg_of X G d33)⟩ oLMoved k_37 b37 oLPieceO k_34 b34 oLRests k_33 b33
  have TQ1 : TxtQ1 mg g1 := ⟨n_range, n_min, (PySem.W.mg_of X G d1)⟩
  have oLState := ok_state (P := l.prog) (w := w) (base := base) F32 TQ1 oPick k_1 b1
  have oLModuli := ok_moduli (P := l.prog) (w := w) (base := base) F38 TQ1 oPick k_1 b1
  have oLDrawnP := ok_drawn (P := l.prog) (w := w) (base := base) F39 ⟨n_int, n_range, (PySem.W.mg_of X G d1)⟩ oPick k_1 b1
  have oLDrawnF := ok_drawnf (P := l.prog) (w := w) (base := base) F40 ⟨n_int, n_len, n_sum, n_range, n_enumerate, (PySem.W.mg_of X G d1), (PySem.W.mg_of X G d38), (PySem.W.mg_of X G d39), (PySem.W.mg_of X G d33), (PySem.W.mg_of X G d29)⟩ oPick k_1 b1 oLModuli k_38 b38 oLDrawnP k_39 b39 oLRests k_33 b33 (oCp 3) k_29 b29
  have oLToldW := ok_ltoldw (P := l.prog) (w := w) (base := base) F41 ⟨n_list, (PySem.W.mg_of X G d29), (PySem.W.mg_of X G d34), (PySem.W.mg_of X G d33)⟩ (oCp 3) k_29 b29 oLPieceO k_34 b34 oLRests k_33 b33
  have oLLeast := ok_lleast (P := l.prog) (w := w) (base := base) F42 ⟨n_int, n_len, n_range, (PySem.W.mg_of X G d29), (PySem.W.mg_of X G d36), (PySem.W.mg_of X G d41), (PySem.W.mg_of X G d37)⟩ (oCp 5) k_29 b29 oLPeriod k_36 b36 oLToldW k_41 b41 oLMoved k_37 b37
  have TQ3 : TxtQ3 mg g1 g37 g41 g29 := ⟨n_list, n_len, n_range, (PySem.W.mg_of X G d1), (PySem.W.mg_of X G d37), (PySem.W.mg_of X G d41), (PySem.W.mg_of X G d29)⟩
  have oLWidened := ok_widened (P := l.prog) (w := w) (base := base) F43 TQ3 oPick k_1 b1 oLMoved k_37 b37 oLToldW k_41 b41
  have oLChanged := ok_changed (P := l.prog) (w := w) (base := base) F46 TQ3 oPick k_1 b1 (oCp 5) k_29 b29
  have oLHangs := ok_lhangs (P := l.prog) (w := w) (base := base) F44 ⟨n_range, n_enumerate, (PySem.W.mg_of X G d33), (PySem.W.mg_of X G d37), (PySem.W.mg_of X G d35)⟩ oLRests k_33 b33 oLMoved k_37 b37 oLAt k_35 b35
  have oLHangsR := ok_hr (P := l.prog) (w := w) (base := base) F45 ⟨n_range, n_repr, (PySem.W.mg_of X G d1), (PySem.W.mg_of X G d40), (PySem.W.mg_of X G d29), (PySem.W.mg_of X G d31), (PySem.W.mg_of X G d26), (PySem.W.mg_of X G d42), (PySem.W.mg_of X G d25), (PySem.W.mg_of X G d44), (PySem.W.mg_of X G d27)⟩ oPick k_1 b1 oLDrawnF k_40 b40 (oCp 5) k_29 b29 oSame k_31 b31 oMatrices k_26 b26 sM oLLeast k_42 b42 oIsPlain k_25 b25 sI oLHangs k_44 b44 oHangsOn k_27 b27 sO
  have oLRight := ok_right (P := l.prog) (w := w) (base := base) F47 ⟨n_int, n_range, n_list, n_repr, (PySem.W.mg_of X G d1), (PySem.W.mg_of X G d40), (PySem.W.mg_of X G d43), (PySem.W.mg_of X G d46), (PySem.W.mg_of X G d29), (PySem.W.mg_of X G d42), (PySem.W.mg_of X G d22), (PySem.W.mg_of X G d31), (PySem.W.mg_of X G d32), (PySem.W.mg_of X G d23), (PySem.W.mg_of X G d35), (PySem.W.mg_of X G d24), (PySem.W.mg_of X G d30), (PySem.W.mg_of X G d45)⟩ oPick k_1 b1 oLDrawnF k_40 b40 oLWidened k_43 b43 oLChanged k_46 b46 (oCp 5) k_29 b29 oLLeast k_42 b42 oLeast k_22 b22 sL oSame k_31 b31 oLState k_32 b32 oAt k_23 b23 sA oLAt k_35 b35 oAlike k_24 b24 sE oRanks k_30 b30 oLHangsR k_45 b45
  exact ok_law F48 TN n_range (PySem.W.mg_of X G d0) (PySem.W.mg_of X G d47) oSack k_0 b0 oLRight k_47 b47
theorem walk {l : PySem.W.OpenLaw} {q : Program} {loose : List Str} {XP : (Str → Option Value) → Heap → Prop} {YP : World → Heap → Prop} {d : DefRec} {K : Params → PySem.W.Frag} (hn : l.most = some 63) (hdf : d.params.defaults = [])
    (hY : ∀ (w : World) (h : Heap), YP w h → (K w.params).In h)
    (F : ∀ (w : World) (mg : Str → Option Value) (fa : Addr) (h : Heap), (K w.params).In h → h.Ns mainGlobals mg → mg d.name = some (.ref fa) →
      ∃ fd : FuncData, (∀ (s : Shared) (u : Value), BindsTo s fd ⟨[u], []⟩ [("_law_script", u)]) ∧ ∀ base : Heap, (K w.params).In base → base.Ns mainGlobals mg → FnG l.prog w (K w.params) mg base 11 fa fd ["_law_script"] (spLaw (K w.params))) :
    PySem.W.WalkO q loose XP YP l.row.toRowW d [] (fun f vs => PySem.call f vs) :=
  walk_ofG (n := 63) (k := 11) (x := "_law_script") (sp := fun w => spLaw (K w.params)) hn (by decide) hdf ⟨rfl, by decide, by decide⟩ hY F fun _ _ a ns hl _ _ hS => ⟨a, ns, rfl, hS, hl, fun _ => rfl⟩
end K09

set_option Elab.async false

open PySem PySem.W PyProof.Rows in
set_option maxRecDepth 100000 in
set_option maxHeartbeats 0 in
theorem PySem.Challenge.cw_accountmaps_k09_forms_in_their_least_way_holds : PySem.Challenge.rw_accountmaps_k09_forms_in_their_least_way.Holds := by
  w_on; o_law; k_head; (case hw => w_witness2)
  k_fill
  refine K09.walk (l := PySem.Challenge.rw_accountmaps_k09_forms_in_their_least_way) rfl rfl (fun w h Y => PySem.W.kIn_of Y) ?F
  case F =>
    intro w mg fa h KX G hmg
    refine' K09.all_mk KX G hmg ?d0 ?e0 ?c_0 ?k_0 ?d1 ?e1 ?c_1 ?k_1 ?d2 ?e2 ?c_2 ?k_2 ?d3 ?e3 ?c_3 ?k_3 ?d4 ?e4 ?c_4 ?k_4 ?d5 ?e5 ?c_5 ?k_5 ?d6 ?e6 ?c_6 ?k_6 ?d7 ?e7 ?c_7 ?k_7 ?d8 ?e8 ?c_8 ?k_8 ?d9 ?e9 ?c_9 ?k_9 ?d10 ?e10 ?c_10 ?k_10 ?d11 ?e11 ?c_11 ?k_11 ?d12 ?e12 ?c_12 ?k_12 ?d13 ?e13 ?c_13 ?k_13 ?d14 ?e14 ?c_14 ?k_14 ?d15 ?e15 ?c_15 ?k_15 ?d16 ?e16 ?c_16 ?k_16 ?d17 ?e17 ?c_17 ?k_17 ?d18 ?e18 ?c_18 ?k_18 ?d19 ?e19 ?c_19 ?k_19 ?d20 ?e20 ?c_20 ?k_20 ?d21 ?e21 ?c_21 ?k_21 ?d22 ?e22 ?c_22 ?k_22 ?d23 ?e23 ?c_23 ?k_23 ?d24 ?e24 ?c_24 ?k_24 ?d25 ?e25 ?c_25 ?k_25 ?d26 ?e26 ?c_26 ?k_26 ?d27 ?e27 ?c_27 ?k_27 ?d28 ?e28 ?c_28 ?k_28 ?d29 ?e29 ?c_29 ?k_29 ?d30 ?e30 ?c_30 ?k_30 ?d31 ?e31 ?c_31 ?k_31 ?d32 ?e32 ?c_32 ?k_32 ?d33 ?e33 ?c_33 ?k_33 ?d34 ?e34 ?c_34 ?k_34 ?d35 ?e35 ?c_35 ?k_35 ?d36 ?e36 ?c_36 ?k_36 ?d37 ?e37 ?c_37 ?k_37 ?d38 ?e38 ?c_38 ?k_38 ?d39 ?e39 ?c_39 ?k_39 ?d40 ?e40 ?c_40 ?k_40 ?d41 ?e41 ?c_41 ?k_41 ?d42 ?e42 ?c_42 ?k_42 ?d43 ?e43 ?c_43 ?k_43 ?d44 ?e44 ?c_44 ?k_44 ?d45 ?e45 ?c_45 ?k_45 ?d46 ?e46 ?c_46 ?k_46 ?d47 ?e47 ?c_47 ?k_47 ?d48 ?e48 ?c_48 ?k_48 ?z_len ?z_max ?z_min ?z_abs ?z_int ?z_isinstance ?z_range ?z_list ?z_tuple ?z_repr ?z_sum ?z_all ?z_any ?z_zip ?z_reversed ?z_enumerate
    (case d0 => k_is)
    (case e0 => k_is)
    (case c_0 => k_is)
    (case k_0 => k_is)
    (case d1 => k_is)
    (case e1 => k_is)
    (case c_1 => k_is)
    (case k_1 => k_is)
    (case d2 => k_is)
    (case e2 => k_is)
    (case c_2 => k_is)
    (case k_2 => k_is)
    (case d3 => k_is)
    (case e3 => k_is)
    (case c_3 => k_is)
    (case k_3 => k_is)
    (case d4 => k_is)
    (case e4 => k_is)
    (case c_4 => k_is)
    (case k_4 => k_is)
    (case d5 => k_is)
    (case e5 => k_is)
    (case c_5 => k_is)
    (case k_5 => k_is)
    (case d6 => k_is)
    (case e6 => k_is)
    (case c_6 => k_is)
    (case k_6 => k_is)
    (case d7 => k_is)
    (case e7 => k_is)
    (case c_7 => k_is)
    (case k_7 => k_is)
    (case d8 => k_is)
    (case e8 => k_is)
    (case c_8 => k_is)
    (case k_8 => k_is)
    (case d9 => k_is)
    (case e9 => k_is)
    (case c_9 => k_is)
    (case k_9 => k_is)
    (case d10 => k_is)
    (case e10 => k_is)
    (case c_10 => k_is)
    (case k_10 => k_is)
    (case d11 => k_is)
    (case e11 => k_is)
    (case c_11 => k_is)
    (case k_11 => k_is)
    (case d12 => k_is)
    (case e12 => k_is)
    (case c_12 => k_is)
    (case k_12 => k_is)
    (case d13 => k_is)
    (case e13 => k_is)
    (case c_13 => k_is)
    (case k_13 => k_is)
    (case d14 => k_is)
    (case e14 => k_is)
    (case c_14 => k_is)
    (case k_14 => k_is)
    (case d15 => k_is)
    (case e15 => k_is)
    (case c_15 => k_is)
    (case k_15 => k_is)
    (case d16 => k_is)
    (case e16 => k_is)
    (case c_16 => k_is)
    (case k_16 => k_is)
    (case d17 => k_is)
    (case e17 => k_is)
    (case c_17 => k_is)
    (case k_17 => k_is)
    (case d18 => k_is)
    (case e18 => k_is)
    (case c_18 => k_is)
    (case k_18 => k_is)
    (case d19 => k_is)
    (case e19 => k_is)
    (case c_19 => k_is)
    (case k_19 => k_is)
    (case d20 => k_is)
    (case e20 => k_is)
    (case c_20 => k_is)
    (case k_20 => k_is)
    (case d21 => k_is)
    (case e21 => k_is)
    (case c_21 => k_is)
    (case k_21 => k_is)
    (case d22 => k_is)
    (case e22 => k_is)
    (case c_22 => k_is)
    (case k_22 => k_is)
    (case d23 => k_is)
    (case e23 => k_is)
    (case c_23 => k_is)
    (case k_23 => k_is)
    (case d24 => k_is)
    (case e24 => k_is)
    (case c_24 => k_is)
    (case k_24 => k_is)
    (case d25 => k_is)
    (case e25 => k_is)
    (case c_25 => k_is)
    (case k_25 => k_is)
    (case d26 => k_is)
    (case e26 => k_is)
    (case c_26 => k_is)
    (case k_26 => k_is)
    (case d27 => k_is)
    (case e27 => k_is)
    (case c_27 => k_is)
    (case k_27 => k_is)
    (case d28 => k_is)
    (case e28 => k_is)
    (case c_28 => k_is)
    (case k_28 => k_is)
    (case d29 => k_is)
    (case e29 => k_is)
    (case c_29 => k_is)
    (case k_29 => k_is)
    (case d30 => k_is)
    (case e30 => k_is)
    (case c_30 => k_is)
    (case k_30 => k_is)
    (case d31 => k_is)
    (case e31 => k_is)
    (case c_31 => k_is)
    (case k_31 => k_is)
    (case d32 => k_is)
    (case e32 => k_is)
    (case c_32 => k_is)
    (case k_32 => k_is)
    (case d33 => k_is)
    (case e33 => k_is)
    (case c_33 => k_is)
    (case k_33 => k_is)
    (case d34 => k_is)
    (case e34 => k_is)
    (case c_34 => k_is)
    (case k_34 => k_is)
    (case d35 => k_is)
    (case e35 => k_is)
    (case c_35 => k_is)
    (case k_35 => k_is)
    (case d36 => k_is)
    (case e36 => k_is)
    (case c_36 => k_is)
    (case k_36 => k_is)
    (case d37 => k_is)
    (case e37 => k_is)
    (case c_37 => k_is)
    (case k_37 => k_is)
    (case d38 => k_is)
    (case e38 => k_is)
    (case c_38 => k_is)
    (case k_38 => k_is)
    (case d39 => k_is)
    (case e39 => k_is)
    (case c_39 => k_is)
    (case k_39 => k_is)
    (case d40 => k_is)
    (case e40 => k_is)
    (case c_40 => k_is)
    (case k_40 => k_is)
    (case d41 => k_is)
    (case e41 => k_is)
    (case c_41 => k_is)
    (case k_41 => k_is)
    (case d42 => k_is)
    (case e42 => k_is)
    (case c_42 => k_is)
    (case k_42 => k_is)
    (case d43 => k_is)
    (case e43 => k_is)
    (case c_43 => k_is)
    (case k_43 => k_is)
    (case d44 => k_is)
    (case e44 => k_is)
    (case c_44 => k_is)
    (case k_44 => k_is)
    (case d45 => k_is)
    (case e45 => k_is)
    (case c_45 => k_is)
    (case k_45 => k_is)
    (case d46 => k_is)
    (case e46 => k_is)
    (case c_46 => k_is)
    (case k_46 => k_is)
    (case d47 => k_is)
    (case e47 => k_is)
    (case c_47 => k_is)
    (case k_47 => k_is)
    (case d48 => k_is)
    (case e48 => k_is)
    (case c_48 => k_is)
    (case k_48 => k_is)
    (case z_len => k_is)
    (case z_max => k_is)
    (case z_min => k_is)
    (case z_abs => k_is)
    (case z_int => k_is)
    (case z_isinstance => k_is)
    (case z_range => k_is)
    (case z_list => k_is)
    (case z_tuple => k_is)
    (case z_repr => k_is)
    (case z_sum => k_is)
    (case z_all => k_is)
    (case z_any => k_is)
    (case z_zip => k_is)
    (case z_reversed => k_is)
    (case z_enumerate => k_is)

