import PyProof.Rows.All
import Wide.All
import OpenK.AllK
import Wide.FinOn
import PyProof.EqAt
import PyProof.EqKinds
import PyProof.TupleCall
import KE.KExcInit
import HandS.Base
import HandS.Call
import HandS.List
import HandS.Exc
import KE.KExcIs
import HandS.ExcInit
import HandS.IsInst
import HandS.Words
import KE.KExcMake
import HandS.Dict
import PyProof.ReprRoads
import HandS.Ends
import HandS.ForMost
import HandS.Evl
import PyProof.ExcBaseAll.LookupError
import PyProof.ExcBaseAll.RuntimeError
import PyProof.ExcBaseAll.TypeError
import PyProof.ExcBaseAll.OverflowError
import PyProof.ExcBaseAll.ValueError
import PySem.Challenge.RW_heldby_k00_errors_made_from_their_fields
set_option Elab.async false
set_option linter.all false
set_option maxRecDepth 100000
set_option maxHeartbeats 8000000
namespace L2.K0
open PySem PySem.Spec PyProof.Rows PySem.Calls Builtin

/-! ### an exception class directly below a built-in one is called, with keywords too -/
section
variable {prog : Program} {w : World} {M : Model} {A : Around} {E : Value → Shared → Prop} {R : Result → Shared → Prop} {hp : Heap} {gs : Array GenState} {dr : Drawn} {tk : Nat} {os : OsState}
variable {nm qn : Str} {C N : Addr} {bs bm : List Value} {hd : Bool} {sn : List Str} {sub : List Value} {ab : Bool} {col : Option Bool} {dd : Option Addr} {k0 k1 k2 k3 k5 : Option Value} {B newId initId : String}

theorem kwNew_checked (F : ExcBaseFacts B newId initId bm) {xs : List Value} {kw : List (Str × Value)} {Q : Unit → Shared → Prop}
    (cC : hp.get? C = some (excClassObj nm qn C N bs bm hd sn sub ab col dd k0 k1 k2 k3 k5 newId)) (q : Q () ⟨hp, gs, dr, tk, os⟩) :
    wpAny M A (checkBuiltinCall newId ⟨.ref C :: xs, kw⟩) Q E ⟨hp, gs, dr, tk, os⟩ := by
  have c1 : (Value.ref C :: bm).contains (.type B) = true := by rw [List.contains_cons, F.hasB, Bool.or_true]
  have c2 := F.noStar
  simp only [checkBuiltinCall, F.newRow, F.newSplit, F.newKind]
  repeat (first | (refine wpAny_isSubtype_exc cC ?_; rw [c1]) | refine wpAny_madeBy_exc cC ?_ | refine wpAny_staticBase_exc cC ?_ | refine wpAny_loadPart_at cC ?_ | simp only [Bool.false_eq_true, bne_self_eq_false, if_false] | wp_step)
  exact q

theorem kwNew_made (F : ExcBaseFacts B newId initId bm) {xs : List Value} {kw : List (Str × Value)}
    (cC : hp.get? C = some (excClassObj nm qn C N bs bm hd sn sub ab col dd k0 k1 k2 k3 k5 newId)) (hz : xs.length ≤ sizeLine)
    (q : R (.ok (.ret (.ref (hp.objs.size + 1)))) ⟨(hp.push (PySem.W.kdv_tup xs)).push (HandSPX.excO C hp.objs.size), gs, dr, tk, os⟩) :
    codeAny (model prog w) A (.builtin newId ⟨.ref C :: xs, kw⟩) R ⟨hp, gs, dr, tk, os⟩ := by
  have c1 : (Value.ref C :: bm).contains (.type B) = true := by rw [List.contains_cons, F.hasB, Bool.or_true]
  have c2 : (Value.ref C :: bm).contains (.type "AttributeError") = false := by rw [List.contains_cons, F.noAttr]; rfl
  have c3 : (Value.ref C :: bm).contains (.type "NameError") = false := by rw [List.contains_cons, F.noName]; rfl
  have c4 := F.ends
  refine codeAny_builtinAt F.entry ?_
  unfold Builtin.«BaseException.__new__»
  refine PySem.wpAt_bind ?_
  show PySem.wpAt _ _ _ (stack >>= _) _ _ _
  refine PySem.wpAt_bind (PySem.wpAt_stack fun p0 rest0 => PySem.wpAt_of_wpAny ?_)
  wp_walk
  refine PySem.wpAt_of_wpAny ?_
  rw [F.owner]
  repeat (first | with_reducible refine wpAny_loadPart_at cC ?_ | with_reducible refine wpAny_madeHere_exc F.canon cC ?_ | (with_reducible refine wpAny_isSubtype_exc cC ?_; first | rw [c1] | rw [c2] | rw [c3]) | wp_step)
  show R _ _
  rw [Heap.size_push]
  exact q

theorem kwCall_made (F : ExcBaseFacts B newId initId bm) {xs : List Value} {kw : List (Str × Value)} {fI : Addr} {Q : Fin → Shared → Prop}
    (cC : hp.get? C = some (excClassObj nm qn C N bs bm hd sn sub ab col dd k0 k1 k2 k3 k5 newId)) (hi : W.Looks (model prog w) hp (typeLookup (.ref C) "__init__") (some (.ref fI)))
    (hb : ∀ me, W.Looks (model prog w) hp (bindSpecial (.ref fI) me) (.ref fI, [me])) (hz : xs.length ≤ sizeLine)
    (q : codeAny (model prog w) A (.call (.ref fI) ⟨.ref (hp.objs.size + 1) :: xs, kw⟩)
      (fun r s' => match r with | .ok (.ret v) => v = .none ∧ Q (.done (.ret (.ref (hp.objs.size + 1)))) s' | .ok _ => False | .error e => E e s') ⟨(hp.push (PySem.W.kdv_tup xs)).push (HandSPX.excO C hp.objs.size), gs, dr, tk, os⟩) :
    wpAny (model prog w) A (Builtin.«type.__call__» ⟨.ref C :: xs, kw⟩) Q E ⟨hp, gs, dr, tk, os⟩ := by
  repeat (first | with_reducible refine wpAny_madeBy_exc cC ?_ | with_reducible refine wpAny_loadPart_at cC ?_ | wp_step)
  refine codeAny_call_builtin_code (Code.quiet_builtin _ F.quiet) (kwNew_checked F cC (kwNew_made F cC hz ?_))
  show wpAny _ _ _ _ _ _
  have kk : ∀ b o, hp.get? b = some o → ((hp.push (W.kdv_tup xs)).push (HandSPX.excO C hp.objs.size)).get? b = some o := fun b o e => Heap.get?_push_of_some _ (Heap.get?_push_of_some _ e)
  have cE : ((hp.push (W.kdv_tup xs)).push (HandSPX.excO C hp.objs.size)).get? (hp.objs.size + 1) = some (HandSPX.excO C hp.objs.size) := by heap_get
  have cS : (Value.ref C :: bm).contains (.ref C) = true := by simp
  have i2 := hi.keeps kk
  have b2 := (hb (.ref (hp.objs.size + 1))).keeps kk
  have cC2 := kk _ _ cC
  unfold isInstance
  repeat (first | (with_reducible refine wpAny_isSubtype_exc cC2 ?_; rw [cS]) | with_reducible refine wpAny_loadPart_at cE ?_ | wp_step)
  show wpAny _ _ (typeLookup (.ref C) _) _ _ _
  refine i2.at (wpAny_holding (wpAny_bind (b2.at ?_)))
  refine wpAny_bind (wpAny_call (codeAny_mono q fun r s' z => ?_))
  rcases r with e | (v | _ | _ | _) <;> first | exact z | exact False.elim z | skip
  obtain ⟨rfl, z⟩ := z
  first
    | exact wpAny_pure (wpAny_pure z)
    | (wp_walk; exact z)

theorem kwCall_own (F : ExcBaseFacts B newId initId bm) {xs : List Value} {kw : List (Str × Value)} {fI : Addr}
    (cC : hp.get? C = some (excClassObj nm qn C N bs bm hd sn sub ab col dd k0 k1 k2 k3 k5 newId)) (hi : W.Looks (model prog w) hp (typeLookup (.ref C) "__init__") (some (.ref fI)))
    (hb : ∀ me, W.Looks (model prog w) hp (bindSpecial (.ref fI) me) (.ref fI, [me])) (hz : xs.length ≤ sizeLine)
    (q : codeAny (model prog w) (A.under (.builtin "type.__call__" ⟨.ref C :: xs, kw⟩)) (.call (.ref fI) ⟨.ref (hp.objs.size + 1) :: xs, kw⟩) (W.InitBack (hp.objs.size + 1) R) ⟨(hp.push (PySem.W.kdv_tup xs)).push (HandSPX.excO C hp.objs.size), gs, dr, tk, os⟩) :
    codeAny (model prog w) A (.call (.ref C) ⟨xs, kw⟩) R ⟨hp, gs, dr, tk, os⟩ := by
  have f1 := tc_lookup
  have f2 := tc_bind (.ref C)
  have cT : (⟨hp, gs, dr, tk, os⟩ : Shared).TypeIs (.ref C) "type" := ⟨_, cC, rfl⟩
  refine codeAny_of_tree ?_
  show wpAny _ _ (callAny (.ref C) _) _ _ _
  repeat (any_goals (first | with_reducible refine wpAny_loadPart_at cC ?_ | assumption | wp_step))
  refine ⟨rfl, codeAny_call_builtin_at (Code.quiet_builtin _ (by decide +kernel)) entry_typeCall (wpAny_check_type_call_sub cC (kwCall_made F cC hi hb hz ?_))⟩
  refine codeAny_mono q fun r s' z => ?_
  rcases r with e | (v | _ | _ | _) <;> exact z
end
end L2.K0

namespace L2.K0
open PySem PySem.Spec PyProof.Rows

/-! ### what the written part says of an error class of the program that lies directly below a built-in one -/
structure ErrC (K : PySem.W.Frag) (C : Addr) (B newId initId : String) (bm : List Value) : Prop where
  base : ExcBaseFacts B newId initId bm
  st : StoreFacts B bm "object.__setattr__" "object"
  tail : PySem.W.excTail bm bm = true
  cls : ∃ nm q N bs sn sub ab col dd k0 k1 k2 k3 k5, K.lookup C = some (excClassObj nm q C N bs bm true sn sub ab col dd k0 k1 k2 k3 k5 newId)
  sa : PySem.W.findIn K (.ref C) "__setattr__" = some (some (.builtin "object.__setattr__"))
  ga : PySem.W.findIn K (.ref C) "__getattribute__" = some (some (.builtin "BaseException.__getattribute__"))
  gt : ∃ g, PySem.W.findIn K (.ref C) "__getattr__" = some g
  ca : PySem.W.findIn K (.ref C) "__class__" = some (some (.builtin "object.__class__"))
  kp : PySem.W.keepIn K (.ref C) = true

section
variable {K : PySem.W.Frag} {C : Addr} {B newId initId : String} {bm : List Value}
theorem ErrC.data (T : ErrC K C B newId initId bm) : ∃ cd : ClassData, PySem.W.clsIn K C = some cd ∧ cd.mro = .ref C :: bm ∧ cd.hasDict = true := by
  obtain ⟨nm, q, N, bs, sn, sub, ab, col, dd, k0, k1, k2, k3, k5, e⟩ := T.cls
  refine ⟨_, by unfold PySem.W.clsIn; rw [e], rfl, rfl⟩
theorem ErrC.mro (T : ErrC K C B newId initId bm) (v : Value) : PySem.W.mroIn K C v = some ((Value.ref C :: bm).contains v) := by
  obtain ⟨cd, e, e2, _⟩ := T.data
  unfold PySem.W.mroIn
  rw [e, Option.bind_some, e2]
  rfl
theorem ErrC.over (T : ErrC K C B newId initId bm) : PySem.W.excOver K C bm = true := by
  obtain ⟨cd, e, e2, _⟩ := T.data
  unfold PySem.W.excOver
  rw [e]
  simp [e2, T.tail]
theorem ErrC.isBase (T : ErrC K C B newId initId bm) : PySem.W.subIn K (.ref C) (.type "BaseException") = some true := by
  show PySem.W.mroIn K C _ = _
  rw [T.mro, List.contains_cons, T.base.hasBase, Bool.or_true]
theorem ErrC.isObj (T : ErrC K C B newId initId bm) : PySem.W.mroIn K C (.type "object") = some true := by
  rw [T.mro, List.contains_cons, T.st.hasOwner, Bool.or_true]
theorem ErrC.ty (T : ErrC K C B newId initId bm) : PySem.W.typeIn K (.ref C) = some (.type "type") := by
  obtain ⟨nm, q, N, bs, sn, sub, ab, col, dd, k0, k1, k2, k3, k5, e⟩ := T.cls
  show (K.lookup C).map (·.cls) = _
  rw [e]
  rfl
end

/-! ### self.f = v on a new one -/
section
variable {X : Cx} {pins : List (Addr × Obj)} {σ : St} {H : Hp} {s : Shared} {a C : Addr} {f : Str} {y : V} {u : Value} {E : Value → Shared → Prop} {A : Around} {B newId initId : String} {bm : List Value}
theorem fld_new {Q : Unit → Shared → Prop} (T : ErrC X.K C B newId initId bm) (I : Inv X pins σ H s) (e : H a = some (exo a C none)) (hno : PySem.W.findIn X.K (.ref C) f = some none) (ry : RelV y u)
    (q : ∀ dx s', H dx = none → dx ≠ a → Inv X pins σ (upd (upd H dx (exd dx [(f, y)])) a (exo a C (some dx))) s' → Q () s') : wpAny (model X.prog X.w) A (setAttr (.ref a) f u) Q E s := by
  obtain ⟨cd, hcd, hmro, hdict⟩ := T.data
  obtain ⟨t1, ho⟩ := exo_at I.hok e
  have KI := I.kIn
  obtain ⟨hp, gs, dr, tk, os⟩ := s
  have J : PySem.W.InstAt hp a { cls := .ref C, dict := none, data := .fields #[.ref t1, .none, .none, .none, .bool false, .none] } C none := ⟨ho, rfl, rfl, trivial⟩
  have nta : PySem.W.takerIn X.K C f = some none := by
    unfold PySem.W.takerIn
    rw [hno]
    rfl
  refine PySem.W.set_plain KI J T.sa (PySem.W.osa_openX T.st KI (od := none) J T.over nta fun b => ?_)
  show wpAny _ _ (Builtin.ObjectAttr.storeInOwnDict (.ref a) (.ref C) (.str f tk) f u b) _ _ _
  have lookC : PySem.W.Looks (model X.prog X.w) hp (classData C) cd := PySem.W.looks_clsIn KI hcd
  have nea : a ≠ hp.objs.size := Nat.ne_of_lt (Heap.lt_size ho)
  obtain ⟨nm, bs, mro, ns, qn, hd, sn, sb, ab, col, del⟩ := cd
  dsimp only at hdict hmro
  subst hdict hmro
  unfold Builtin.ObjectAttr.storeInOwnDict Builtin.ObjectAttr.ownDictForStores
  repeat (first | with_reducible refine PX.store_in_new ?_ ?_ | with_reducible refine lookC.at ?_ | with_reducible refine wpAny_loadPart_at ho ?_ | wp_step)
  · exact ⟨_, #[], _, (Heap.get?_update_ne _ _ _ _ nea.symm).trans (Heap.get?_push_at rfl rfl), rfl, fun z hz => absurd hz (by simp), fun _ => rfl⟩
  · intro h' tk' hn' hs
    have dn : H hp.objs.size = none := I.hok.fresh (Nat.le_refl _)
    have hx : h'.get? a = some { cls := .ref C, dict := some hp.objs.size, data := .fields #[.ref t1, .none, .none, .none, .bool false, .none] } :=
      (hs.2 a nea).trans (Heap.get?_update_self _ (show (hp.push { cls := .type "dict", data := .dict #[] }).get? a = some _ from Heap.get?_push_of_some _ ho) rfl)
    have k : ∀ b o, b ≠ a → hp.get? b = some o → h'.get? b = some o := fun b o hb hq =>
      (hs.2 b (Nat.ne_of_lt (Heap.lt_size hq))).trans ((Heap.get?_update_ne _ _ _ _ hb).trans (Heap.get?_push_of_some _ hq))
    have ne1 : ∀ {b : Addr} {o : Obj}, hp.get? b = some o → b ≠ hp.objs.size := fun hq => Nat.ne_of_lt (Heap.lt_size hq)
    have ne2 : ∀ {b : Addr}, H b = none → b ≠ a := fun {b} n z => by
      rw [z, e] at n
      cases n
    refine q hp.objs.size _ dn nea.symm (I.un (t' := tk') (h' := h') ⟨?_, ?_, ?_, ?_, ?_, ?_, ?_⟩ fun b o z => ?_)
    · exact fun b o z n _ _ => k b o (ne2 n) z
    · exact fun b o z n _ _ => ⟨o.slots, k b o (ne2 n) z⟩
    · intro b o z n _
      rw [upd_ne (ne2 n), upd_ne (ne1 z)]
      exact n
    · intro b o z _
      by_cases hb : b = a
      · exact ⟨_, by rw [hb]; exact hx⟩
      · exact ⟨o, k b o hb z⟩
    · intro b xs z
      rw [upd_ne (at_ne e z exo_tup), upd_ne (ne_of_none z dn)]
      exact z
    · intro b o v z
      rw [upd_ne (at_ne e z exo_frz), upd_ne (ne_of_none z dn)]
      exact z
    · intro b ps z
      refine ⟨#[], ?_⟩
      rw [upd_ne (at_ne e z exo_tbl), upd_ne (ne_of_none z dn), z]
      simp
    · by_cases hb : b = a
      · subst hb
        rw [upd_same] at z
        cases z
        exact exo_ok hx
      · rw [upd_ne hb] at z
        by_cases hd : b = hp.objs.size
        · subst hd
          rw [upd_same] at z
          cases z
          exact exd_ok hn' (relO_put (fs := []) ry fun g => True.intro)
        · rw [upd_ne hd] at z
          have own : ∀ c, H c = some (.own b) → c ≠ a := fun c hc => at_ne e hc exo_own
          refine (I.hok b o z).stay (fun c v hc hv => k c v (fun w => ?_) hv) (fun c hc => ?_) fun c xs hc => ?_
          · rcases hc with hc | hc
            · exact hb (hc.symm.trans w)
            · exact own c hc w
          · rw [upd_ne (own c hc), upd_ne (ne_of_none hc dn)]
            exact hc
          · rw [upd_ne (at_ne e hc exo_tup), upd_ne (ne_of_none hc dn)]
            exact hc
end

/-- self.f = e where self is a new error -/
def tFld (f : Str) (to te : TE) : TS := fun D σ H => te σ H fun y H1 => to σ H1 fun x H2 => ∃ a C : Addr, x = .ref a ∧ H2 a = some (exo a C none) ∧ ∀ dx, H2 dx = none → dx ≠ a → D.nx σ (upd (upd H2 dx (exd dx [(f, y)])) a (exo a C (some dx)))
/-- what an __init__ that stores its one parameter is worth -/
def spI (C : Addr) (f : Str) : Sp := fun vs H Q _ => ∃ (a : Addr) (v : V), vs = [.ref a, v] ∧ H a = some (exo a C none) ∧ ∀ d, H d = none → d ≠ a → Q .non (upd (upd H d (exd d [(f, v)])) a (exo a C (some d)))

section
variable {P : Program} {w : World} {K : PySem.W.Frag} {mg : Str → Option Value} {base : Heap} {C g : Addr} {fd : FuncData} {B newId initId : String} {bm : List Value} {f qual : Str} {st : Stmt} {p1 p2 p3 p4 : Pos}
theorem ok_init (F : Fun K "__init__" qual st g fd) (S : FnScope ["self", f] ["self", f] (defScope st)) (hb : defBody st = [.Assign [.Attribute (.Name "self" p1) f p2] (.Name f p3) p4]) (T : ErrC K C B newId initId bm)
    (hno : PySem.W.findIn K (.ref C) f = some none) (hf : ((f == ("__debug__" : Str)) = false ∧ (f == ("__classdict__" : Str)) = false)) : FnOk P w K mg base CX0 1 g fd ["self", f] (spI C f) := by
  refine F.ok S (fun vs H Q E h => ?_) (fun cdv A outer s H vs Q E hr h => ?_)
  · obtain ⟨a, v, rfl, _⟩ := h
    rfl
  · obtain ⟨a, v, rfl, ha, k⟩ := h
    have v1 : Vis (defScope st) "self" := (S.par "self" (by simp)).elim .inl fun z => .inr (.inl z)
    have v2 : Vis (defScope st) f := (S.par f (by simp)).elim .inl fun z => .inr (.inl z)
    have body : PS (cxOf CX0 P w K mg base ["self", f] qual (defScope st) g cdv A outer s H E).nox (.Assign [.Attribute (.Name "self" p1) f p2] (.Name f p3) p4)
        (fun D σ H => tVar 1 σ H fun y H1 => tVar 0 σ H1 fun x H2 => ∃ a : Addr, x = .ref a ∧ H2 a = some (exo a C none) ∧ ∀ dx, H2 dx = none → dx ≠ a → D.nx σ (upd (upd H2 dx (exd dx [(f, y)])) a (exo a C (some dx)))) := by
      have e1 : PE (cxOf CX0 P w K mg base ["self", f] qual (defScope st) g cdv A outer s H E).nox (.Name f p3) (tVar 1) := pv 1 rfl v2 hf.1 hf.2
      have e0 : PE (cxOf CX0 P w K mg base ["self", f] qual (defScope st) g cdv A outer s H E).nox (.Name "self" p1) (tVar 0) := pv 0 rfl v1
      refine ⟨fun pins s σ H D I h => ?_⟩
      refine plainObj_wpAny_Assign_Attribute (thn (e1.run pins s σ H _ I h) fun v s1 ⟨y, H1, I1, r1, q1⟩ => thn (e0.run pins s1 σ H1 _ I1 q1) fun u s2 ⟨x, H2, I2, r2, a, ex, ea, q⟩ => ?_) (by rfl)
      subst ex
      obtain rfl : u = Value.ref a := r2
      exact fld_new T I2 ea hno r1 fun dx s' n ne J => ⟨σ, _, J, q dx n ne⟩
    refine ⟨_, by rw [hb]; exact pss_one body, ?_⟩
    exact ⟨v, rfl, .ref a, rfl, a, rfl, ha, fun d hd ne => k d hd ne⟩
end
end L2.K0

namespace L2.K0
open PySem PySem.Spec PyProof.Rows

theorem err_upd {H : Hp} {a d C : Addr} {o1 o2 o3 : HO} (ne : d ≠ a) : upd (upd (upd H a o1) d o2) a o3 = upd (upd H d o2) a o3 := by
  funext b
  by_cases h : b = a
  · rw [h, upd_same, upd_same]
  · rw [upd_ne h, upd_ne h]
    by_cases h2 : b = d
    · rw [h2, upd_same, upd_same]
    · rw [upd_ne h2, upd_ne h2, upd_ne h]

/-- a class as the law's text has it: its name x, its field f, its place C, its __init__ at g -/
structure EC (P : Program) (w : World) (K : PySem.W.Frag) (mg : Str → Option Value) (base : Heap) (x f : Str) (C : Addr) : Prop where
  ex : ∃ (B newId initId : String) (bm : List Value) (g : Addr) (fd : FuncData), ErrC K C B newId initId bm ∧ PySem.W.findIn K (.ref C) "__init__" = some (some (.ref g)) ∧ PySem.W.typeIn K (.ref g) = some (.type "function") ∧
    FnOk P w K mg base CX0 1 g fd ["self", f] (spI C f) ∧ (∀ (s : Shared) (u0 u : Value), BindsTo s fd ⟨[u0, u], []⟩ [("self", u0), (f, u)]) ∧ (∀ (s : Shared) (u0 u : Value), BindsTo s fd ⟨[u0], [(f, u)]⟩ [("self", u0), (f, u)])
  no : PySem.W.findIn K (.ref C) f = some none
  gx : mg x = some (.ref C)

section
variable {X : Cx} {pins : List (Addr × Obj)} {σ : St} {H : Hp} {s : Shared} {C : Addr} {x f : Str} {v : V} {u : Value} {Q : VK}
theorem run_err (T : EC X.prog X.w X.K X.mg X.base x f C) (hr : Room 2 X.A) {us : List Value} {kw : List (Str × Value)} (hk : (us = [u] ∧ kw = []) ∨ (us = [] ∧ kw = [(f, u)])) (I : Inv X pins σ H s) (r : RelV v u)
    (q : ∀ a d, H a = none → H d = none → d ≠ a → Q (.ref a) (upd (upd H d (exd d [(f, v)])) a (exo a C (some d)))) : wpAny (model X.prog X.w) X.A (call (.ref C) us kw) (EP X pins σ Q) X.xe s := by
  obtain ⟨B, newId, initId, bm, g, fd, T0, iC, tI, F, b1, b2⟩ := T.ex
  obtain ⟨nm, qn, N, bs, sn, sub, ab, col, dd, k0, k1, k2, k3, k5, hC⟩ := T0.cls
  obtain ⟨hp, gs, dr, tk, os⟩ := s
  have hsz : hp.objs.size ≤ hp.objs.size + 1 := Nat.le_succ _
  have hn : H (hp.objs.size + 1) = none := I.hok.fresh hsz
  have kk : ∀ b o, hp.get? b = some o → ((hp.push (PySem.W.kdv_tup us)).push (PySem.HandSPX.excO C hp.objs.size)).get? b = some o := fun b o e => Heap.get?_push_of_some _ (Heap.get?_push_of_some _ e)
  have hget : ((hp.push (PySem.W.kdv_tup us)).push (PySem.HandSPX.excO C hp.objs.size)).get? (hp.objs.size + 1) = some (PySem.HandSPX.excO C hp.objs.size) := by heap_get
  have I2 : Inv X pins σ (upd H (hp.objs.size + 1) (exo (hp.objs.size + 1) C none)) ⟨(hp.push (PySem.W.kdv_tup us)).push (PySem.HandSPX.excO C hp.objs.size), gs, dr, tk, os⟩ :=
    I.laid (t' := tk) kk hsz (exo_ok hget)
  have r2 : Vals [V.ref (hp.objs.size + 1), v] [Value.ref (hp.objs.size + 1), u] := .cons rfl (.cons r .nil)
  have hz : us.length ≤ sizeLine := by
    rcases hk with ⟨rfl, _⟩ | ⟨rfl, _⟩
    · show 1 ≤ sizeLine
      decide
    · show 0 ≤ sizeLine
      decide
  have hbind : ∀ s' : Shared, BindsTo s' fd ⟨Value.ref (hp.objs.size + 1) :: us, kw⟩ ((["self", f] : List Str).zip [Value.ref (hp.objs.size + 1), u]) := by
    rcases hk with ⟨rfl, rfl⟩ | ⟨rfl, rfl⟩
    · exact fun s' => b1 s' _ _
    · exact fun s' => b2 s' _ _
  refine wpAny_call (kwCall_own T0.base (I.kIn _ _ hC) (PySem.W.looks_findIn I.kIn iC) (fun me => PySem.W.bind_fn I.kIn me tI) hz
    (codeAny_mono (F.run _ X.stack _ _ ⟨Value.ref (hp.objs.size + 1) :: us, kw⟩ [Value.ref (hp.objs.size + 1), u] [V.ref (hp.objs.size + 1), v] (fun z H2 => z = .non ∧ Q (.ref (hp.objs.size + 1)) H2) E0 (hr.make C us kw) (I2.env0.make C us kw) (hbind _) r2 ?_) fun rr s' hq => ?_))
  · refine ⟨hp.objs.size + 1, v, rfl, upd_same, fun d hd ne => ⟨rfl, ?_⟩⟩
    rw [err_upd (C := C) ne]
    rw [upd_ne ne] at hd
    exact q _ d hn hd ne
  · cases rr with
    | error er => exact hq.elim
    | ok fl =>
      cases fl with
      | ret z =>
        obtain ⟨y, H', J, ry, ey, q3⟩ := I2.after hq
        subst ey
        exact ⟨ry, ⟨.ref (hp.objs.size + 1), H', J, rfl, q3⟩⟩
      | next => exact False.elim hq
      | brk => exact False.elim hq
      | cont => exact False.elim hq
end

def one1 (R : V → Hp → Prop) (vs : List V) (H : Hp) : Prop := match vs with
  | [v] => R v H
  | _ => False
/-- C(e), C(f=e): a new error that holds e's value -/
def tErr (C : Addr) (f : Str) (te : TE) : TE := fun σ H Q => te σ H fun v H1 => ∀ a d, H1 a = none → H1 d = none → d ≠ a → Q (.ref a) (upd (upd H1 d (exd d [(f, v)])) a (exo a C (some d)))
section
variable {X : Cx} {C : Addr} {x f : Str} {e : Expr} {te : TE} {p pos kp : Pos}
theorem pe_err (T : EC X.prog X.w X.K X.mg X.base x f C) (hr : Room 2 X.A) (he : PE X e te) (hg : Gl X x) (hdb : (x == ("__debug__" : Str)) = false := by decide) (hs : starEach [e] X.env = (false, eval e X.env) :: starEach [] X.env := by rfl) :
    PE X (.Call (.Name x p) [e] [] pos) (tErr C f te) := by
  refine ⟨fun pins s σ H Q I h => ?_⟩
  obtain ⟨B, newId, initId, bm, g, fd, T0, _⟩ := T.ex
  refine wpAny_Call_Name_kw (ld_glob I hg T.gx ?_ hdb)
  refine PySem.W.callWith_K (h₀ := X.base) I.ok.mod.kin T0.kp ?_ hs (by rfl)
  rw [hs]
  show wpAny _ _ (spliced ((false, eval e X.env) :: backTo pos (starEach [] X.env))) _ _ s
  refine Calls.spliced_cons (thn (he.run pins s σ H _ I h) fun u s1 ⟨v, H1, I1, r1, q1⟩ => Calls.spliced_nil ⟨I1.kIn, ?_⟩)
  exact run_err T hr (.inl ⟨rfl, rfl⟩) I1 r1 q1
theorem pe_errK (T : EC X.prog X.w X.K X.mg X.base x f C) (hr : Room 2 X.A) (he : PE X e te) (hg : Gl X x) (hdb : (x == ("__debug__" : Str)) = false := by decide) : PE X (.Call (.Name x p) [] [⟨some f, e, kp⟩] pos) (tErr C f te) := by
  refine ⟨fun pins s σ H Q I h => ?_⟩
  obtain ⟨B, newId, initId, bm, g, fd, T0, _⟩ := T.ex
  refine wpAny_Call_Name_kw (ld_glob I hg T.gx ?_ hdb)
  refine PySem.W.callWith_KW0 (h₀ := X.base) I.ok.mod.kin T0.kp (by rfl) ?_ (by rfl)
  have hkw : PK X [⟨some f, e, kp⟩] (tCons te tNil) := pk_cons he pk_nil
  refine thn (hkw.run pos pins s σ H (one1 fun v H1 => ∀ a d, H1 a = none → H1 d = none → d ≠ a → Q (.ref a) (upd (upd H1 d (exd d [(f, v)])) a (exo a C (some d)))) I h) fun us s1 ⟨vs, H1, I1, r1, q1⟩ => ⟨I1.kIn, ?_⟩
  match vs, r1, q1 with
  | [v], .cons rv .nil, q1 => exact run_err T hr (.inr ⟨rfl, rfl⟩) I1 rv q1
/-- C(), C without an __init__ of its own -/
theorem pe_err0 {B newId initId : String} {bm : List Value} (T : ErrC X.K C B newId initId bm) (iC : PySem.W.findIn X.K (.ref C) "__init__" = some (some (.builtin initId))) (hm : X.mg x = some (.ref C)) (hg : Gl X x) (hdb : (x == ("__debug__" : Str)) = false := by decide) :
    PE X (.Call (.Name x p) [] [] pos) (fun _ H Q => ∀ a, H a = none → Q (.ref a) (upd H a (exo a C none))) := by
  refine ⟨fun pins s σ H Q I h => ?_⟩
  refine wpAny_Call_Name_kw (ld_glob I hg hm ?_ hdb)
  refine PySem.W.callWith_K0 I.kIn T.kp ?_
  show wpAny _ _ (call (.ref C) []) _ _ _
  obtain ⟨nm, qn, N, bs, sn, sub, ab, col, dd, k0, k1, k2, k3, k5, hC⟩ := T.cls
  have KI := I.kIn
  obtain ⟨hp, gs, dr, tk, os⟩ := s
  refine PySem.W.call_B T.base (fun _ => rfl) (KI _ _ hC) (PySem.W.looks_findIn KI iC) (show 0 ≤ sizeLine by decide) fun h' k e1 e2 => ?_
  exact ⟨.ref (hp.objs.size + 1), _, I.laid (t' := tk) k (Nat.le_succ _) (exo_ok e1), rfl, h _ (I.hok.fresh (Nat.le_succ _))⟩
/-- e.f of such an error -/
def tErF (P : Program) (w : World) (K : PySem.W.Frag) (mg : Str → Option Value) (base : Heap) (f : Str) (te : TE) : TE := fun σ H Q => te σ H fun y H1 => ∃ (a d C : Addr) (x : Str) (v : V), y = .ref a ∧ EC P w K mg base x f C ∧
    H1 a = some (exo a C (some d)) ∧ H1 d = some (exd d [(f, v)]) ∧ Q v H1
theorem pe_errF (he : PE X e te) (hb : attributeBase e f X.env (eval e X.env) = eval e X.env := by rfl) : PE X (.Attribute e f pos) (tErF X.prog X.w X.K X.mg X.base f te) := by
  refine ⟨fun pins s σ H Q I h => ?_⟩
  refine attr_of hb (thn (he.run pins s σ H _ I h) fun u s1 ⟨y, H1, I1, r1, a, d, C, x, v, ey, T, ha, hd, q⟩ => ?_)
  subst ey
  obtain rfl : u = Value.ref a := r1
  obtain ⟨B, newId, initId, bm, g, fd, T0, _⟩ := T.ex
  obtain ⟨gg, hgg⟩ := T0.gt
  obtain ⟨t1, ho⟩ := exo_at I1.hok ha
  obtain ⟨mA, hns, rel⟩ := exd_at I1.hok hd
  obtain ⟨od, hod, hl⟩ := lookIn_ns hns
  obtain ⟨u, hu, ru⟩ := RelO.some_of (v := v) (o := mA f) (by have z := rel f; rw [lookup_put, if_pos rfl] at z; exact z)
  have J : PySem.W.InstAt s1.heap a { cls := .ref C, dict := some d, data := .fields #[.ref t1, .none, .none, .none, .bool false, .none] } C (some od) := ⟨ho, rfl, rfl, hod⟩
  obtain ⟨cd, hcd, _, hdict⟩ := T0.data
  have hh : PySem.W.hasDictIn X.K C = true := by
    unfold PySem.W.hasDictIn
    rw [hcd]
    exact hdict
  exact HandSPX.exc_get I1.kIn J T0.ga hgg T0.isBase (PySem.W.findObj_own hh T.no rfl (by rw [hl, hu])) (handed_of ru) ⟨v, H1, I1.tok _, ru, q⟩
end
end L2.K0

namespace L2.K0
open PySem PySem.Spec PyProof.Rows

/-! ### isinstance of such an error -/
def IsErr (H : Hp) (v : V) (C : Addr) : Prop := ∃ (a : Addr) (d : Option Addr), v = .ref a ∧ H a = some (exo a C d) ∧ ∀ dx, d = some dx → ∃ fs, H dx = some (exd dx fs)
theorem IsErr.same {H H' : Hp} {v : V} {C : Addr} (h : IsErr H v C) (s : Same H H') : IsErr H' v C := by
  obtain ⟨a, d, e, ha, hd⟩ := h
  exact ⟨a, d, e, s _ _ ha, fun dx z => let ⟨fs, q⟩ := hd dx z; ⟨fs, s _ _ q⟩⟩
def rIsE (K : PySem.W.Frag) : List V → Hp → VK → Prop := fun xs H Q => ∃ (v c : V) (C : Addr) (u : Value) (b : Bool) (B newId initId : String) (bm : List Value), xs = [v, c] ∧ ClsV c u ∧ IsErr H v C ∧ ErrC K C B newId initId bm ∧ PySem.W.kitOne K (.ref C) u = some b ∧ Q (.bl b) H
section
variable {X : Cx}
theorem call_isE : CallR X (.builtin "isinstance") (rIsE X.K) := by
  intro pins s σ H xs us Q I r h
  obtain ⟨v, c, C, u, b, B, newId, initId, bm, rfl, k, ⟨a, d, rfl, ha, hd⟩, T, e, q⟩ := h
  obtain ⟨u1, u2, rfl, r1, r2⟩ := vals2 r
  have e2 := k.eq r2
  subst e2
  cases (show u1 = Value.ref a from r1)
  obtain ⟨t1, ho⟩ := exo_at I.hok ha
  obtain ⟨g, hg⟩ := T.gt
  obtain ⟨cd, hcd, _, _⟩ := T.data
  have hcl : (PySem.W.clsIn X.K C).isSome = true := by rw [hcd]; rfl
  obtain ⟨od, J⟩ : ∃ od, PySem.W.InstAt s.heap a { cls := .ref C, dict := d, data := .fields #[.ref t1, .none, .none, .none, .bool false, .none] } C od := by
    cases d with
    | none => exact ⟨none, ho, rfl, rfl, trivial⟩
    | some dx =>
      obtain ⟨fs, hx⟩ := hd dx rfl
      obtain ⟨mA, hns, _⟩ := exd_at I.hok hx
      obtain ⟨od, hod, _⟩ := lookIn_ns hns
      exact ⟨some od, ho, rfl, rfl, hod⟩
  refine PySem.W.kia_one (PySem.W.kitx_exc (od := od) hcl T.ga hg T.isBase T.ca (by rfl) (by rfl) T.isObj) I.kIn J e (fun z => nomatch z) fun tk => ⟨.bl b, H, I.tok tk, rfl, q⟩
end

/-! ### repr of data -/
inductive Ox (K : PySem.W.Frag) (H : Hp) : V → PyData → Prop
  | dat {v : V} {d : PyData} (h : Dp K H v d) : Ox K H v d
  | dic0 {a : Addr} (h : H a = some (.dK [])) : Ox K H (.ref a) (.dict [])
  | dic1 {a : Addr} (h : H a = some (.dK [(Sum.inr "a", .int 1)])) : Ox K H (.ref a) (.dict [(.str "a", .int 1)])

mutual
theorem Dp.same {K : PySem.W.Frag} {H H' : Hp} (s : Same H H') : ∀ {v : V} {d : PyData}, Dp K H v d → Dp K H' v d
  | _, _, .non => .non
  | _, _, .bl b => .bl b
  | _, _, .int i => .int i
  | _, _, .str x => .str x
  | _, _, .lst h q => .lst (s.seq h) (DpAll.same s q)
  | _, _, .tup h q => .tup (by
      rcases h with (h | ⟨o, h⟩) | h
      · exact .inl (.inl (s _ _ h))
      · exact .inl (.inr ⟨o, s _ _ h⟩)
      · exact .inr h) (DpAll.same s q)
theorem DpAll.same {K : PySem.W.Frag} {H H' : Hp} (s : Same H H') : ∀ {vs : List V} {ds : List PyData}, DpAll K H vs ds → DpAll K H' vs ds
  | _, _, .nil => .nil
  | _, _, .cons h q => .cons (Dp.same s h) (DpAll.same s q)
end
theorem Ox.same {K : PySem.W.Frag} {H H' : Hp} (s : Same H H') {v : V} {d : PyData} (h : Ox K H v d) : Ox K H' v d := by
  cases h with
  | dat h => exact .dat (Dp.same s h)
  | dic0 h => exact .dic0 (s _ _ h)
  | dic1 h => exact .dic1 (s _ _ h)
mutual
theorem Dp.noDict {K : PySem.W.Frag} {H : Hp} : ∀ {v : V} {d : PyData}, Dp K H v d → d.hasDict = false
  | _, _, .non => by simp only [PyData.hasDict]
  | _, _, .bl b => by simp only [PyData.hasDict]
  | _, _, .int i => by simp only [PyData.hasDict]
  | _, _, .str x => by simp only [PyData.hasDict]
  | _, _, .lst h q => by simp only [PyData.hasDict]; exact DpAll.noDict q
  | _, _, .tup h q => by simp only [PyData.hasDict]; exact DpAll.noDict q
theorem DpAll.noDict {K : PySem.W.Frag} {H : Hp} : ∀ {vs : List V} {ds : List PyData}, DpAll K H vs ds → PyData.hasDictAll ds = false
  | _, _, .nil => by simp only [PyData.hasDictAll]
  | _, _, .cons h q => by simp only [PyData.hasDictAll, Dp.noDict h, DpAll.noDict q, Bool.or_false]
end

section
variable {X : Cx} {pins : List (Addr × Obj)} {σ : St} {H : Hp} {s : Shared}
theorem Ox.reads (I : Inv X pins σ H s) {v : V} {d : PyData} {u : Value} (h : Ox X.K H v d) (r : RelV v u) : ∃ as, Reads s.heap u d as ∧ (d.hasDict = true → sysModules ∉ as) := by
  cases h with
  | dat h =>
    obtain ⟨as, q⟩ := Dp.reads I d v u h r
    exact ⟨as, q, fun z => by rw [Dp.noDict h] at z; cases z⟩
  | @dic0 a h =>
    cases (show u = Value.ref a from r)
    obtain ⟨_, hs, vs, kv, o, es, ep, ho, hx, hd, _, he, _⟩ := dk_of I.hok h
    cases kv
    have e0 : es.toList = [] := by
      generalize es.toList = l at he
      cases he
      rfl
    refine ⟨[a] ++ [], Reads.dict (as := []) (bs := []) ho hx.1 hd (by rw [e0]; exact .nil) (by rw [e0]; exact .nil), fun _ z => ?_⟩
    have z' : sysModules = a := by simpa using z
    rw [z'] at hs
    simp at hs
  | @dic1 a h =>
    cases (show u = Value.ref a from r)
    obtain ⟨_, hs, vs, kv, o, es, ep, ho, hx, hd, _, he, _⟩ := dk_of I.hok h
    cases kv with
    | @cons _ q _ qs hq ht =>
      cases ht
      obtain ⟨qk, qv⟩ := q
      obtain ⟨e1, t1, e2⟩ := hq
      dsimp only at e1 e2
      subst e1 e2
      obtain ⟨e, e0, ek, ev⟩ : ∃ e : DictEntry, es.toList = [e] ∧ keyIs (Sum.inr "a") e.key = true ∧ e.val = .int 1 t1 := by
        generalize es.toList = l at he
        cases he with
        | cons h1 h2 h3 =>
          cases h3
          exact ⟨_, rfl, h1, h2⟩
      obtain ⟨t2, ek⟩ := Value.isStrOf_shape (x := "a") (v := e.key) ek
      refine ⟨[a] ++ [] ++ [], Reads.dict (as := []) (bs := []) ho hx.1 hd (by rw [e0]; exact .cons (as := []) (bs := []) (by show Reads s.heap e.key (.str "a") []; rw [ek]; exact .str _ _) .nil) (by rw [e0]; exact .cons (as := []) (bs := []) (by show Reads s.heap e.val (.int 1) []; rw [ev]; exact .int _ _) .nil), fun _ z => ?_⟩
      have z' : sysModules = a := by simpa using z
      rw [z'] at hs
      simp at hs
theorem Ox.readsN (I : Inv X pins σ H s) {v : V} {d : PyData} (h : Ox X.K H v d) : ∀ (n : Nat) (us : List Value), Vals (List.replicate n v) us → ∃ as, ReadsAll s.heap us (List.replicate n d) as ∧ (d.hasDict = true → sysModules ∉ as)
  | 0, _, .nil => ⟨[], .nil, fun _ z => nomatch z⟩
  | n + 1, _, .cons r rs => by
    obtain ⟨as, q1, q2⟩ := Ox.reads I h r
    obtain ⟨bs, q3, q4⟩ := Ox.readsN I h n _ rs
    exact ⟨as ++ bs, .cons q1 q3, fun z m => (List.mem_append.mp m).elim (q2 z) (q4 z)⟩
theorem showN {d : PyData} (hs : d.showable = true) : ∀ n : Nat, PyData.showableAll (List.replicate n d) = true
  | 0 => by simp only [List.replicate, PyData.showableAll]
  | n + 1 => by simp only [List.replicate, PyData.showableAll, hs, showN hs n, Bool.and_self]
theorem shownN {d : PyData} : ∀ n : Nat, PyData.shownAll (List.replicate n d) = List.replicate n d.shown
  | 0 => by simp only [List.replicate, PyData.shownAll]
  | n + 1 => by simp only [List.replicate, PyData.shownAll, shownN n]
theorem dictN {d : PyData} : ∀ n : Nat, PyData.hasDictAll (List.replicate n d) = true → d.hasDict = true
  | 0, h => by simp only [List.replicate, PyData.hasDictAll] at h; cases h
  | n + 1, h => by
    simp only [List.replicate, PyData.hasDictAll, Bool.or_eq_true] at h
    exact h.elim id (dictN n)
theorem depthN {d : PyData} : ∀ n : Nat, PyData.depthAll (List.replicate n d) ≤ d.depth
  | 0 => by simp only [List.replicate, PyData.depthAll]; omega
  | n + 1 => by
    have := depthN (d := d) n
    simp only [List.replicate, PyData.depthAll]
    omega
end

/-- repr(x), x data -/
def rRep (K : PySem.W.Frag) : List V → Hp → VK → Prop := fun xs H Q => ∃ (v : V) (d : PyData), xs = [v] ∧ Ox K H v d ∧ d.showable = true ∧ d.depth ≤ 20 ∧ d.shown.length ≤ sizeLine ∧ Q (.str d.shown) H
/-- repr(l), l a list of the one value, again and again -/
def rRepL (K : PySem.W.Frag) : List V → Hp → VK → Prop := fun xs H Q => ∃ (l : Addr) (n : Nat) (v : V) (d : PyData), xs = [.ref l] ∧ H l = some (.lst (List.replicate (n + 1) v)) ∧ Ox K H v d ∧ d.showable = true ∧ d.depth ≤ 20 ∧
  (listText (List.replicate (n + 1) d.shown)).length ≤ sizeLine ∧ Q (.str (listText (List.replicate (n + 1) d.shown))) H
section
variable {X : Cx}
theorem call_rep (hg : X.A.guards = some []) (hu : X.A.units + 64 < cLine) : CallR X (.builtin "repr") (rRep X.K) := by
  intro pins s σ H xs us Q I r h
  obtain ⟨v, d, rfl, hv, hs, hdp, hz, q⟩ := h
  obtain ⟨u, rfl, r1⟩ := vals1 r
  obtain ⟨as, hr, hm⟩ := Ox.reads I hv r1
  have fin : ∀ h' t tk, (∀ b o, s.heap.get? b = some o → h'.get? b = some o) → EP X pins σ Q (.str d.shown t) { s with heap := h', toks := tk } := fun h' t tk k => ⟨.str d.shown, H, I.kept k, ⟨t, rfl⟩, q⟩
  cases hr with
  | none => simp only [PyData.shown] at fin; exact PySem.P.repr_of_none (fin s.heap _ _ fun _ _ e => e)
  | bool b => simp only [PyData.shown] at fin; exact PySem.P.repr_of_bool (fin s.heap _ _ fun _ _ e => e)
  | int i t => simp only [PyData.shown] at fin; exact PySem.P.repr_of_int (by simpa [PyData.showable] using hs) (fin s.heap _ _ fun _ _ e => e)
  | str x t => simp only [PyData.shown] at fin hz; exact PySem.P.repr_of_str (fin s.heap _ _ fun _ _ e => e) hz
  | list h1 h2 h3 h4 => exact repr_of_reads' (.list h1 h2 h3 h4) hs hm hg (by omega) (fun _ _ e => e) fin hz
  | tuple h1 h2 h3 h4 => exact repr_of_reads' (.tuple h1 h2 h3 h4) hs hm hg (by omega) (fun _ _ e => e) fin hz
  | dict h1 h2 h3 h4 h5 => exact repr_of_reads' (.dict h1 h2 h3 h4 h5) hs hm hg (by omega) (fun _ _ e => e) fin hz
theorem call_repL (hg : X.A.guards = some []) (hu : X.A.units + 64 < cLine) : CallR X (.builtin "repr") (rRepL X.K) := by
  intro pins s σ H xs us Q I r h
  obtain ⟨l, n, v, d, rfl, hl, hv, hs, hdp, hz, q⟩ := h
  obtain ⟨u, rfl, r1⟩ := vals1 r
  cases (show u = Value.ref l from r1)
  obtain ⟨_, its, m, rv, ho⟩ := (show ObjOk X.prog X.w H s.heap l (.lst (List.replicate (n + 1) v)) from I.hok l _ hl)
  obtain ⟨as, hr, hm⟩ := Ox.readsN I hv (n + 1) its rv
  cases rv with
  | @cons _ u0 _ ur ra rt =>
    have hr' : ReadsAll s.heap (u0 :: ur).toArray.toList (List.replicate (n + 1) d) as := hr
    have r0 : Reads s.heap (.ref l) (.list (List.replicate (n + 1) d)) (l :: as) := .list ho rfl rfl hr'
    have eT := shownN (d := d) (n + 1)
    have hz' : (listText (PyData.shownAll (List.replicate (n + 1) d))).length ≤ sizeLine := by rw [eT]; exact hz
    obtain ⟨bs, hb, hk⟩ := ReprAllK.of_readsAll (prog := X.prog) (w := X.w) hr' (showN hs _) (fun z => hm (dictN _ z)) (fun t ht => Nat.le_trans (listText_mem_le ht) hz')
    have hna : l ∉ bs := not_mem_of_deeper r0 (by simp only [PyData.depth]; omega) hb
    have hdp2 := depthN (d := d) (n + 1)
    refine call_repr_slot (T := "list") (by omega) ⟨_, ho, rfl⟩ PySem.F.slot_list_repr.toG ?_
    refine call_list_reprK ho rfl rfl hna (by simpa using hk.length_eq) (fun i y e => hk.item i y (by simpa using e)) hg (fun b _ => Clear.nil b) (by show X.A.units + 1 + _ < cLine; omega) (fun _ _ e => e) (fun h' t tk k => ⟨_, t, rfl, ?_⟩) hz'
    rw [eT]
    exact ⟨.str (listText (List.replicate (n + 1) d.shown)), H, I.kept k, ⟨t, rfl⟩, q⟩
end
end L2.K0

namespace L2.K0
open PySem PySem.Spec PyProof.Rows

/-! ### the law's own def, entered from the caller alone: what runs around it is known -/
section
variable {P : Program} {w : World} {K : PySem.W.Frag} {mg : Str → Option Value} {base : Heap} {x qual : Str} {st : Stmt} {f : Addr} {fd : FuncData} {N ps : List Str} {k : Nat}
theorem entered (F : Fun K x qual st f fd) (S : FnScope N ps (defScope st)) {A : Around} {outer : List Env} {s : Shared} {H : Hp} {args : Args} {us : List Value} {vs : List V} {Q : VK} {E : XK} (hr : Room (k + 1) A)
    (e0 : Env0 P w K mg base A outer s H) (hb : BindsTo s fd args (ps.zip us)) (rel : Vals vs us) (hl : vs.length = ps.length)
    (body : ∀ cdv : Value, Room k (A.deeper (envOfC qual (defScope st) s.heap.objs.size f cdv)) → ∃ t, PSs (cxOf CX0 P w K mg base N qual (defScope st) f cdv A outer s H E).nox (defBody st) t ∧ t { nx := fun _ H' => Q .non H', rt := Q } (start N vs) H) :
    codeAny (model P w) A (.call (.ref f) args) (CR CX0 outer P w H s Q E) s := by
  obtain ⟨oc, od, kV, doc, pm, an, cdv, ct, osl, rfl, lk, hcd⟩ := F.ex
  have inK : K.In s.heap := e0.mod.kin.keeps fun b o z => (e0.bs b o z).1
  have nol : s.heap.NoLimit := e0.mod.nolimit.keeps fun b o z => (e0.bs b o z).1
  have kinds : ∀ y ∈ ps.zip us, (defScope st).names.lookup y.1 = some .local ∨ ((defScope st).names.lookup y.1 = some .cell ∧ ((cellsFrom (s.heap.objs.size + 1) (defScope st).names []).lookup y.1).isSome = true) := by
    rintro ⟨n, v⟩ hy
    have z := S.par n (List.of_mem_zip hy).1
    exact z.elim .inl fun q => .inr ⟨q, PySem.W.cellsFrom_some _ _ _ (.inl q)⟩
  refine codeAny_call_function hr.depth (inK _ _ lk) rfl S.co S.gen rfl (PySem.W.codeRec_of inK hcd) (hb _ _ _ _ (wpAny_newFunctionEnv_cells S.kind kinds fun env he s1 z => ?_))
  subst he
  refine ⟨nol.keeps z.toInCall.keep, codeAny_func ?_⟩
  obtain ⟨t, ht, hq⟩ := body cdv (hr.deeper _)
  have I : Inv (cxOf CX0 P w K mg base N qual (defScope st) f cdv A outer s H E) [] (start N vs) H s1 := inv_start S hr.hd e0 hl rel z
  refine wpAny_mono (ht.nox.run [] s1 (start N vs) H _ I hq) (fun fl s' hs => ?_) fun e s' hs => hs
  match fl, hs with
  | .ret u, ⟨v, σ', H', J, rv, q⟩ => exact ⟨v, H', J.os, J.bare, J.base, J.hok, rv, q⟩
  | .next, ⟨σ', H', J, q⟩ => exact ⟨.non, H', J.os, J.bare, J.base, J.hok, rfl, q⟩
  | .brk, ⟨_, _, _, q⟩ => exact False.elim q
  | .cont, ⟨_, _, _, q⟩ => exact False.elim q
end

/-- the law, called on a list of ints: F tells its body's reading, where what runs around is the caller alone -/
theorem called {P : Program} {w : World} {K : PySem.W.Frag} {mg mb : Str → Option Value} {k : Nat} {fa a : Addr} {fd : FuncData} {x qual : Str} {st : Stmt} {N : List Str} {s₁ : Shared} {vs : List Value} {ns : List Int}
    (inK : K.In s₁.heap) (hns : s₁.heap.Ns mainGlobals mg) (hbn : s₁.heap.Ns builtinsNs mb) (hbb : ∀ x : Str, x ≠ "__name__" → mb x = bootBuiltins x) (nol : s₁.heap.NoLimit) (hg : s₁.gens = #[])
    (ha : s₁.heap.get? a = some { cls := .type "list", data := .seq vs.toArray }) (hi : IntsAre vs ns) (hl : ns.length ≤ sizeLine) (hr : Room (k + 1) callerA)
    (F : Fun K "law" qual st fa fd) (S : FnScope N [x] (defScope st)) (hbind : ∀ (s : Shared) (u : Value), BindsTo s fd ⟨[u], []⟩ [(x, u)])
    (body : ∀ (base : Heap) (s : Shared) (H : Hp) (cdv : Value) (Q : VK), K.In base → base.Ns mainGlobals mg → Only H → SqL K H a (ns.map V.int) → (∀ H', Q (.bl true) H') → Room k (callerA.deeper (envOfC qual (defScope st) s.heap.objs.size fa cdv)) →
      ∃ t, PSs (cxOf CX0 P w K mg base N qual (defScope st) fa cdv callerA [] s H E0).nox (defBody st) t ∧ t { nx := fun _ H' => Q .non H', rt := Q } (start N [.ref a]) H) :
    codeAny (model P w) callerA (.call (.ref fa) ⟨[.ref a], []⟩) (fun r s' => r = .ok (.ret (.bool true)) ∧ OldK s₁.heap s'.heap ∧ s'.os = s₁.os ∧ AllBare s'.gens) s₁ := by
  have rel := vals_ints hi
  have lenV := hi.length
  have main : ∀ H : Hp, Only H → SqL K H a (ns.map V.int) → HOk P w H s₁.heap → (∀ b, H b ≠ none → b = a) → (H a ≠ none → K.lookup a = none) →
      codeAny (model P w) callerA (.call (.ref fa) ⟨[.ref a], []⟩) (fun r s' => r = .ok (.ret (.bool true)) ∧ OldK s₁.heap s'.heap ∧ s'.os = s₁.os ∧ AllBare s'.gens) s₁ := by
    intro H hO hS hok only noK
    have low : ∀ {b : Addr} {o : Obj}, s₁.heap.get? b = some o → H b = none → (hidT s₁.heap H).get? b = some o := fun e n => hidT_get e n
    have dictN : ∀ {b : Addr} {o : Obj} {es : Array DictEntry} {ep : Nat}, s₁.heap.get? b = some o → o.data = .dict es ep → H b = none := by
      intro b o es ep e d
      by_cases q : H b = none
      · exact q
      · have eb := only b q
        subst eb
        rw [ha] at e
        cases e
        cases d
    have nsL : ∀ {b : Addr} {m : Str → Option Value}, s₁.heap.Ns b m → (hidT s₁.heap H).Ns b m := fun ⟨o, es, ep, e, d, z⟩ => ⟨o, es, ep, low e (dictN e d), d, z⟩
    have inB : K.In (hidT s₁.heap H) := by
      intro b o e
      refine low (inK b o e) ?_
      by_cases q : H b = none
      · exact q
      · have eb := only b q
        subst eb
        rw [noK q] at e
        cases e
    have M : Mod K mg (hidT s₁.heap H) := ⟨inB, nsL hns, ⟨mb, nsL hbn, hbb⟩, let ⟨mc, z1, z2⟩ := nol; ⟨mc, nsL z1, z2⟩⟩
    have e0 : Env0 P w K mg (hidT s₁.heap H) callerA [] s₁ H := ⟨rfl, M, fun b o e => of_hidT e, Nat.le_of_eq (hidT_size _ _), trivial, (fun b hb => by cases hb), hok, .of_eq hg⟩
    refine codeAny_mono (entered F S (us := [.ref a]) (vs := [.ref a]) (Q := fun v _ => v = .bl true) (E := E0) hr e0 (hbind s₁ (.ref a)) (.cons rfl .nil) rfl fun cdv hr' => body _ s₁ H cdv (fun v _ => v = .bl true) inB (nsL hns) hO hS (fun _ => rfl) hr') fun r s' h => ?_
    match r, h with
    | .error e, h => exact h.elim
    | .ok (.ret u), ⟨v, H', os, bare, un, hok', rv, q⟩ =>
      have q' : v = .bl true := q
      subst q'
      obtain rfl : u = Value.bool true := rv
      refine ⟨rfl, OldK.of_keep fun b o e => ?_, os, bare⟩
      cases q : H b with
      | none => exact un.keep b o e q (by intro z; cases z) (by simp)
      | some u =>
        rcases hO b with z | ⟨ob, xs, z⟩
        · rw [q] at z
          cases z
        · obtain ⟨e1, _⟩ := hok b _ z
          obtain ⟨e2, _⟩ := hok' b _ (un.frzs b ob _ z)
          rw [e] at e1
          cases e1
          exact e2
    | .ok .next, h => exact False.elim h
    | .ok .brk, h => exact False.elim h
    | .ok .cont, h => exact False.elim h
  by_cases hk : K.lookup a = none
  · refine main (fun b => if b = a then some (.frz { cls := .type "list", data := .seq vs.toArray } (.lst (ns.map V.int))) else none) (fun b => ?_) (.inl (.inr ⟨{ cls := .type "list", data := .seq vs.toArray }, if_pos rfl⟩)) (fun b u z => ?_) (fun b z => ?_) fun _ => hk
    · by_cases hb : b = a
      · exact .inr ⟨_, _, if_pos hb⟩
      · exact .inl (if_neg hb)
    · by_cases hb : b = a
      · subst hb
        have z' := (if_pos rfl).symm.trans z
        cases z'
        exact ⟨ha, by rw [List.length_map]; exact hl, vs, _, rel, ha⟩
      · have z' := (if_neg hb).symm.trans z
        cases z'
    · by_cases hb : b = a
      · exact hb
      · exact absurd (if_neg hb) z
  · obtain ⟨o, e⟩ := Option.ne_none_iff_exists'.mp hk
    have e' := inK a o e
    rw [ha] at e'
    cases e'
    refine main (fun _ => none) (fun _ => .inl rfl) (.inr ⟨_, vs.toArray, _, e, rfl, rfl, rfl, by rw [List.size_toArray, lenV]; exact hl, by simpa using rel⟩) (fun b u z => by cases z) (fun b z => absurd rfl z) fun z => absurd rfl z

/-- the goal that is left of the head -/
theorem walkG {l : PySem.W.OpenLaw} {n k : Nat} {q : Program} {loose : List Str} {XP : (Str → Option Value) → Heap → Prop} {YP : World → Heap → Prop} {d : DefRec} {K : Params → PySem.W.Frag} {x qual : Str} {st : Stmt} {N : List Str}
    (hn : l.most = some n) (hn2 : n ≤ sizeLine) (hdf : d.params.defaults = []) (hr : Room (k + 1) callerA) (S : FnScope N [x] (defScope st)) (hY : ∀ (w : World) (h : Heap), YP w h → (K w.params).In h)
    (F : ∀ (w : World) (mg : Str → Option Value) (fa : Addr) (h : Heap), (K w.params).In h → h.Ns mainGlobals mg → mg d.name = some (.ref fa) →
      ∃ fd : FuncData, Fun (K w.params) "law" qual st fa fd ∧ (∀ (s : Shared) (u : Value), BindsTo s fd ⟨[u], []⟩ [(x, u)]) ∧
        ∀ (a : Addr) (ns : List Int) (base : Heap) (s : Shared) (H : Hp) (cdv : Value) (Q : VK), ns.length ≤ n → (K w.params).In base → base.Ns mainGlobals mg → Only H → SqL (K w.params) H a (ns.map V.int) → (∀ H', Q (.bl true) H') →
          Room k (callerA.deeper (envOfC qual (defScope st) s.heap.objs.size fa cdv)) →
          ∃ t, PSs (cxOf CX0 l.prog w (K w.params) mg base N qual (defScope st) fa cdv callerA [] s H E0).nox (defBody st) t ∧ t { nx := fun _ H' => Q .non H', rt := Q } (start N [.ref a]) H) :
    PySem.W.WalkO q loose XP YP l.row.toRowW d [] (fun f vs => PySem.call f vs) := by
  refine Att.attach_call hn hdf fun w s₀ s₁ mg mb fa o pm cd doc a vs ns G Y ho hd hcd hmg hobj hints hlen hg => ?_
  have inK := hY w _ Y
  obtain ⟨fd, Fn, hb, B⟩ := F w mg fa _ inK G.T.g hmg
  exact called inK G.T.g G.T.b G.T.builtins G.T.nolimit hg hobj hints (Nat.le_trans hlen hn2) hr Fn S hb fun base s H cdv Q h1 h2 h3 h4 h5 h6 => B a ns base s H cdv Q hlen h1 h2 h3 h4 h5 h6
end L2.K0

namespace L2.K0
open PySem PySem.Spec PyProof.Rows Evl

/-! ### the text by places -/
def topS (i : Nat) : Stmt := PySem.Challenge.pw_heldby_k00_errors_made_from_their_fields.main.body.getD i (.Pass ⟨0, 0, 0, 0⟩)
abbrev sPen : Stmt := topS 35
abbrev sDraw : Stmt := topS 36
abbrev sPick : Stmt := topS 37
abbrev sOdd : Stmt := topS 38
abbrev sKinds : Stmt := topS 39
abbrev sClasses : Stmt := topS 40
abbrev sWith : Stmt := topS 41
abbrev sByKw : Stmt := topS 42
abbrev sLaw : Stmt := topS 43

/-! ### more words about what evaluates -/
section
variable {K : PySem.W.Frag} {σ : L2.St} {H H' : Hp} {ta tb te td ty tv : TE} {x y z v : V} {D : Ends}
theorem ev_dget {a : Addr} {kvs : List (Key × V)} {k : Str} (ho : Ev td σ H (.ref a)) (hk : Ev ty σ H (.str k)) (hd : H a = some (.dK kvs)) (hv : valV kvs (.inr k) = some v) : Ev (tDGet td ty) σ H v := fun H1 e Q q =>
  ho H1 e _ fun H2 e2 => hk H2 (e.trans e2) _ fun H3 e3 => ⟨a, v, rfl, by
    rw [← hv]
    exact DGet.k (k := Sum.inr k) (((e.trans e2).trans e3) a _ hd), q H3 (e2.trans e3)⟩
theorem s_dput {a : Addr} {kvs : List (Key × V)} {k : Str} (ho : Ev td σ H (.ref a)) (hk : Ev ty σ H (.str k)) (hv : Ev tv σ H v) (hd : H a = some (.dK kvs)) (hl : kvs.length < 1000)
    (q : ∀ H1, Ex H H1 → D.nx σ (upd H1 a (.dK (putK kvs (.inr k) v)))) : sDPut td ty tv D σ H :=
  hv H (Ex.refl H) _ fun H1 e1 => ho H1 e1 _ fun H2 e2 => hk H2 (e1.trans e2) _ fun H3 e3 =>
    ⟨a, _, rfl, DPut.k (k := Sum.inr k) (((e1.trans e2).trans e3) a _ hd) (small1000 (Nat.le_of_lt hl)), q H3 ((e1.trans e2).trans e3)⟩
theorem s_par {i j : Nat} {t : TA} (h : EvA t σ H [v, z]) (q : ∀ H1, Ex H H1 → D.nx ((σ.set i (some v)).set j (some z)) H1) : tPar i j t D σ H :=
  h H (Ex.refl H) _ fun H1 e => ⟨v, z, rfl, q H1 e⟩
theorem ev_int {i : Int} (h : Ev te σ H (.int i)) : Ev (tCB (fun xs H Q => (∃ i, xs = [V.int i] ∧ Q (.int i) H) ∨ ∃ k, xs = [V.bl k] ∧ Q (.int (if k then 1 else 0)) H) (tCons te tNil)) σ H (.int i) :=
  ev_cb (ea_cons h ea_nil) fun H1 _ Q q => .inl ⟨i, rfl, q H1 (Ex.refl H1)⟩
theorem ev_abs {i : Int} (h : Ev te σ H (.int i)) : Ev (tCB (fun xs H Q => ∃ i, xs = [V.int i] ∧ Q (.int (if i < 0 then -i else i)) H) (tCons te tNil)) σ H (.int (if i < 0 then -i else i)) :=
  ev_cb (ea_cons h ea_nil) fun H1 _ Q q => ⟨i, rfl, q H1 (Ex.refl H1)⟩
theorem ev_len1 {a : Addr} {xs : List V} (h : Ev te σ H (.ref a)) (hx : SqL K H a xs) : Ev (tCB (fun vs H Q => ∃ p ys, vs = [V.ref p] ∧ (SqL K H p ys ∨ SqT K H p ys) ∧ Q (.int ys.length) H) (tCons te tNil)) σ H (.int (xs.length : Int)) :=
  fun H1 e Q q => h H1 e _ fun H2 e2 => ⟨a, xs, rfl, .inl (ex_l (e.trans e2) hx), q H2 e2⟩
theorem s_nil (h : D.nx σ H) : tNext D σ H := h
/-- x = e % n -/
theorem s_mod {i : Nat} {a n : Int} (ha : Ev ta σ H (.int a)) (hb : Ev tb σ H (.int n)) (hn : 0 < n) (k : ∀ z H1, 0 ≤ z → z < n → Ex H H1 → D.nx (σ.set i (some (.int z))) H1) :
    tAsg (tOp (rI (fun _ j => 0 < j) fun i j => .int (i % j)) ta tb) (gName i) D σ H :=
  s_asg (ev_op ha hb (rv_I hn)) fun H1 e => k _ H1 (Int.emod_nonneg a (by omega)) (Int.emod_lt_of_pos a hn) e
end

/-! ### the pen -/
def penK (c : Addr) (b r : Int) : List (Key × V) := [(.inr "cells", .ref c), (.inr "begun", .int b), (.inr "rest", .int r)]
structure PenAt (H : Hp) (p c : Addr) (ns : List Int) (b r : Int) : Prop where
  d : H p = some (.dK (penK c b r))
  l : H c = some (.lst (ns.map V.int))
theorem PenAt.ex {H H' : Hp} {p c : Addr} {ns : List Int} {b r : Int} (h : PenAt H p c ns b r) (e : Ex H H') : PenAt H' p c ns b r := ⟨e _ _ h.d, e _ _ h.l⟩
theorem PenAt.ne {H : Hp} {p c : Addr} {ns : List Int} {b r : Int} (h : PenAt H p c ns b r) : c ≠ p := ne_of h.l h.d (by intro z; cases z)
theorem penK_cells (c : Addr) (b r : Int) : valV (penK c b r) (.inr "cells") = some (.ref c) := by rfl
theorem penK_begun (c : Addr) (b r : Int) : valV (penK c b r) (.inr "begun") = some (.int b) := by rfl
theorem penK_rest (c : Addr) (b r : Int) : valV (penK c b r) (.inr "rest") = some (.int r) := by rfl
theorem penK_putB (c : Addr) (b r b' : Int) : putK (penK c b r) (.inr "begun") (.int b') = penK c b' r := by rfl
theorem penK_putR (c : Addr) (b r r' : Int) : putK (penK c b r) (.inr "rest") (.int r') = penK c b r' := by rfl
/-- all but what stands at p is as it was -/
def But (p : Addr) (H H' : Hp) : Prop := ∀ a o, H a = some o → a ≠ p → H' a = some o
theorem But.refl (p : Addr) (H : Hp) : But p H H := fun _ _ h _ => h
theorem But.trans {p : Addr} {H H1 H2 : Hp} (a : But p H H1) (b : But p H1 H2) : But p H H2 := fun x o h n => b x o (a x o h n) n
theorem But.ofEx {p : Addr} {H H1 : Hp} (a : Ex H H1) : But p H H1 := fun x o h _ => a x o h
theorem But.upd {p : Addr} {H H1 : Hp} {o : HO} (a : But p H H1) : But p H (upd H1 p o) := fun x u h n => by
  rw [upd_ne n]
  exact a x u h n
def spPen (K : PySem.W.Frag) : Sp := fun vs H Q _ => ∃ (a : Addr) (ns : List Int), vs = [.ref a] ∧ SqL K H a (ns.map V.int) ∧ ns.length ≤ 63 ∧ ∀ p c H', H p = none → Ex H H' → PenAt H' p c ns 0 0 → Q (.ref p) H'
def spDraw : Sp := fun vs H Q _ => ∃ (p c : Addr) (ns : List Int) (b r m : Int), vs = [.ref p, .int m] ∧ PenAt H p c ns b r ∧ ns.length ≤ 63 ∧ 0 ≤ b ∧ b ≤ 1000000000 ∧ 0 ≤ r ∧ 0 < m ∧ m ≤ 1000000000 ∧
  ∀ z b' r' H', 0 ≤ z → z < m → b ≤ b' → b' ≤ b + 1 → 0 ≤ r' → But p H H' → PenAt H' p c ns b' r' → Q (.int z) H'
structure MgB (mg : Str → Option Value) : Prop where
  int : mg "int" = none
  len : mg "len" = none
  abs : mg "abs" = none
  list : mg "list" = none
  repr : mg "repr" = none
  isi : mg "isinstance" = none
  range : mg "range" = none
  e0 : mg "ValueError" = none
  e1 : mg "LookupError" = none
  e2 : mg "TypeError" = none
  e3 : mg "OverflowError" = none
  e4 : mg "RuntimeError" = none

section
variable {P : Program} {w : World} {K : PySem.W.Frag} {mg : Str → Option Value} {base : Heap} {f : Addr} {fd : FuncData}
theorem scPen : FnScope ["_law_script"] ["_law_script"] (defScope sPen) := ⟨rfl, rfl, rfl, by decide +kernel, rfl, by decide +kernel, by decide +kernel⟩
theorem cut63 {ns : List Int} (h : ns.length ≤ 63) : cutV (ns.map V.int) none (some 63) = ns.map V.int := by
  have e : HT.sIx (ns.map V.int).length (ns.map V.int).length (some 63) = (ns.map V.int).length := by
    unfold HT.sIx
    simp
    omega
  unfold cutV
  rw [e]
  simp only [HT.sIx, Nat.sub_zero, List.drop_zero]
  exact List.take_length
theorem ok_pen (F : Fun K "_law_pen" "_law_pen" sPen f fd) (T : MgB mg) : FnOk P w K mg base CX0 1 f fd ["_law_script"] (spPen K) := by
  refine F.ok scPen (fun vs H Q E h => ?_) (fun cdv A outer s H vs Q E hr h => ?_)
  · obtain ⟨a, ns, rfl, _⟩ := h
    rfl
  · obtain ⟨a, ns, rfl, hs, hl, k⟩ := h
    refine ⟨_, pss_one (ps_ret (pe_disp (pps_cons pe_str (pe_callTy call_list_of (by rfl) T.list boot_list (pa_cons (pe_slice sl_list (pv 0) po_none (po_some pe_int)) pa_nil)) (pps_cons pe_str pe_int (pps_cons pe_str pe_int pps_nil))) rfl rfl (by simp) (by decide))), ?_⟩
    intro p np
    have e1 : Ex H (upd H p (.dK [])) := Ex.new np
    refine ⟨_, rfl, _, rfl, a, _, rfl, ex_l e1 hs, fun q nq => ?_⟩
    rw [cut63 hl]
    have e2 := Ex.new (o := .lst (ns.map V.int)) nq
    refine ⟨q, _, rfl, .inl (sq_of upd_same), fun c nc => ?_⟩
    have e3 := Ex.new (o := .lst (ns.map V.int)) nc
    have hq : (upd (upd H p (.dK [])) q (.lst (ns.map V.int))) p = some (.dK []) := e2 _ _ upd_same
    refine ⟨e3 _ _ hq, [(.inr "cells", .ref c), (.inr "begun", .int 0), (.inr "rest", .int 0)], rfl, (by show 3 ≤ 15; decide), ?_⟩
    refine k p c _ np (fun b o hb => ?_) ⟨upd_same, ?_⟩
    · rw [upd_ne (ne_of_none hb np)]
      exact e3 _ _ (e2 _ _ (e1 _ _ hb))
    · rw [upd_ne (ne_of_none hq nc).symm]
      exact upd_same

/-! ### a draw -/
theorem scDraw : FnScope ["_law_pen_here", "_law_many", "_law_digit", "_law_spot", "_law_size", "_law_cell", "_law_mixed"] ["_law_pen_here", "_law_many"] (defScope sDraw) := ⟨rfl, rfl, rfl, by decide +kernel, rfl, by decide +kernel, by decide +kernel⟩
theorem ok_draw (F : Fun K "_law_draw" "_law_draw" sDraw f fd) (T : MgB mg) : FnOk P w K mg base CX0 1 f fd ["_law_pen_here", "_law_many"] spDraw := by
  refine F.ok scDraw (fun vs H Q E h => ?_) (fun cdv A outer s H vs Q E hr h => ?_)
  · obtain ⟨p, c, ns, b, r, m, rfl, _⟩ := h
    rfl
  · obtain ⟨p, c, ns, b, r, m, rfl, pen, hl, hb0, hb1, hr0, hm0, hm1, k⟩ := h
    have hu := hu_of hr
    refine ⟨_, pss_cons (ps_if (pt_cmpR op_gt (pe_dget hu (pv 0) pe_str (fun _ _ => rfl)) pe_int (nomark _))
        (pss_cons (ps_set (i := 2) scDraw.nd rfl (Or.inl rfl) (pe_op op_mod (pe_callTy call_int1 (by rfl) T.int boot_int (pa_cons (pe_dget hu (pv 0) pe_str (fun _ _ => rfl)) pa_nil)) (pv 1)))
        (pss_cons (ps_dput hu (pv 0) pe_str (pe_op op_fdiv (pe_dget hu (pv 0) pe_str (fun _ _ => rfl)) (pv 1)) rfl)
        (pss_one (ps_ret (pv 2))))) pss_nil)
      (pss_cons (ps_par (i := 3) (j := 4) rfl scDraw.nd rfl rfl (by decide) rfl rfl (pa_cons (pe_dget hu (pv 0) pe_str (fun _ _ => rfl)) (pa_cons (pe_callB call_len_seq (by rfl) T.len boot_len (pa_cons (pe_dget hu (pv 0) pe_str (fun _ _ => rfl)) pa_nil)) pa_nil)) (by rfl))
      (pss_cons (ps_dput hu (pv 0) pe_str (pe_op op_add (pv 3) pe_int) rfl)
      (pss_cons (ps_set (i := 5) scDraw.nd rfl (Or.inl rfl) (pe_op op_add (pe_op op_mul pe_int (pv 3)) pe_int))
      (pss_cons (ps_if (pt_cmpR op_gt (pv 4) pe_int (nomark _))
        (pss_one (ps_set (i := 5) scDraw.nd rfl (Or.inl rfl) (pe_ix ix_list (pe_dget hu (pv 0) pe_str (fun _ _ => rfl)) (pe_op op_mod (pe_callTy call_int1 (by rfl) T.int boot_int (pa_cons (pv 3) pa_nil)) (pv 4)) (fun _ _ => rfl)))) pss_nil)
      (pss_cons (ps_if (pw_and (pt_cmpR op_lt (pv 3) (pv 4) (nomark _)) (pw_and1 (pt_cmpR op_ge (pe_callB call_abs (by rfl) T.abs boot_abs (pa_cons (pv 5) pa_nil)) (pe_op op_pow pe_int pe_int) (nomark _)))).pt
        (pss_cons (ps_dput hu (pv 0) pe_str (pe_op op_fdiv (pe_op op_sub (pe_callB call_abs (by rfl) T.abs boot_abs (pa_cons (pv 5) pa_nil)) (pe_op op_pow pe_int pe_int)) (pv 1)) rfl)
        (pss_one (ps_ret (pe_op op_mod (pe_op op_sub (pe_callB call_abs (by rfl) T.abs boot_abs (pa_cons (pv 5) pa_nil)) (pe_op op_pow pe_int pe_int)) (pv 1))))) pss_nil)
      (pss_cons (ps_set (i := 6) scDraw.nd rfl (Or.inl rfl) (pe_op op_mod (pe_callTy call_int1 (by rfl) T.int boot_int (pa_cons (pe_op op_add (pe_op op_add (pe_op op_mul (pe_op op_mod (pe_callTy call_int1 (by rfl) T.int boot_int (pa_cons (pv 5) pa_nil)) pe_int) pe_int)
          (pe_op op_mul (pe_op op_mul pe_int (pv 3)) (pv 3))) pe_int) pa_nil)) pe_int))
      (pss_cons (ps_set (i := 6) scDraw.nd rfl (Or.inl rfl) (pe_op op_mod (pe_callTy call_int1 (by rfl) T.int boot_int (pa_cons (pe_op op_add (pe_op op_add (pe_op op_add (pe_op op_mul (pv 6) (pv 6)) (pe_op op_mul pe_int (pv 6))) (pe_op op_mul pe_int (pv 3))) pe_int) pa_nil)) pe_int))
      (pss_cons (ps_set (i := 6) scDraw.nd rfl (Or.inl rfl) (pe_op op_fdiv (pe_op op_mod (pe_callTy call_int1 (by rfl) T.int boot_int (pa_cons (pe_op op_mul (pv 6) (pe_op op_add (pv 6) pe_int)) pa_nil)) pe_int) pe_int))
      (pss_one (ps_ret (pe_op op_mod (pe_callTy call_int1 (by rfl) T.int boot_int (pa_cons (pv 6) pa_nil)) (pv 1)))))))))))), ?_⟩
    have s0 : Ev (tDGet (tVar 0) (tC (.str "rest"))) (start ["_law_pen_here", "_law_many", "_law_digit", "_law_spot", "_law_size", "_law_cell", "_law_mixed"] [.ref p, .int m]) H (.int r) := ev_dget (ev_var rfl) ev_c pen.d (penK_rest c b r)
    refine s_if (b := decide (0 < r)) (et_test (ev_op s0 ev_c rv_I0)) (fun h1 H1 e1 => ?_) (fun h1 H1 e1 => ?_)
    · have p1 := pen.ex e1
      refine s_asg (ev_op (ev_int (ev_dget (ev_var rfl) ev_c p1.d (penK_rest c b r))) (ev_var rfl) (rv_I hm0)) fun H2 e2 => ?_
      have p2 := p1.ex e2
      refine s_dput (ev_var rfl) ev_c (ev_op (ev_dget (ev_var rfl) ev_c p2.d (penK_rest c b r)) (ev_var rfl) (rv_I ⟨hm0, by omega⟩)) p2.d (by show 3 < 1000; decide) fun H3 e3 => ?_
      rw [penK_putR]
      refine s_ret (ev_var rfl) fun H4 e4 => ?_
      have p3 := p2.ex e3
      refine k _ b _ H4 (Int.emod_nonneg r (by omega)) (Int.emod_lt_of_pos r hm0) (Int.le_refl b) (by omega) (Int.ediv_nonneg hr0 (by omega)) (((But.ofEx (e1.trans (e2.trans e3))).upd).trans (But.ofEx e4)) ⟨e4 _ _ upd_same, e4 _ _ (by rw [upd_ne p3.ne]; exact p3.l)⟩
    · refine s_par (ea_cons (ev_dget (ev_var rfl) ev_c (pen.ex e1).d (penK_begun c b r)) (ea_cons (ev_len1 (ev_dget (ev_var rfl) ev_c (pen.ex e1).d (penK_cells c b r)) (sq_of (pen.ex e1).l)) ea_nil)) fun H2 e2 => ?_
      have p2 := (pen.ex e1).ex e2
      refine s_dput (ev_var rfl) ev_c (ev_op (ev_var rfl) ev_c rv_I0) p2.d (by show 3 < 1000; decide) fun H3 e3 => ?_
      rw [penK_putB]
      have p3 : PenAt (upd H3 p (.dK (penK c (b + 1) r))) p c ns (b + 1) r := ⟨upd_same, by rw [upd_ne p2.ne]; exact (p2.ex e3).l⟩
      have but3 : But p H (upd H3 p (.dK (penK c (b + 1) r))) := (But.ofEx (e1.trans (e2.trans e3))).upd
      generalize upd H3 p (.dK (penK c (b + 1) r)) = G at p3 but3
      clear e3 e2 e1 p2 pen s0
      refine s_asg (ev_op (ev_op ev_c (ev_var rfl) (rv_I (.inl ⟨by decide, by decide⟩))) ev_c rv_I0) fun H4 e4 => ?_
      refine s_if (b := decide (0 < (((ns.map V.int).length : Nat) : Int))) (et_test (ev_op (ev_var rfl) ev_c rv_I0)) (fun h5 H5 e5 => ?_) (fun h5 H5 e5 => ?_)
      · have p5 := (p3.ex e4).ex e5
        have hn : 0 < (((ns.map V.int).length : Nat) : Int) := of_decide_eq_true h5
        have i0 := Int.emod_nonneg b (show (((ns.map V.int).length : Nat) : Int) ≠ 0 by omega)
        have i1 := Int.emod_lt_of_pos b hn
        obtain ⟨z, hz⟩ : ∃ z, atI (ns.map V.int) (b % (((ns.map V.int).length : Nat) : Int)) = some (.int z) := by
          have ej : b % (((ns.map V.int).length : Nat) : Int) = (((b % (((ns.map V.int).length : Nat) : Int)).toNat : Nat) : Int) := by omega
          have hj : (b % (((ns.map V.int).length : Nat) : Int)).toNat < ns.length := by
            have z1 : (((ns.map V.int).length : Nat) : Int) = (ns.length : Int) := by rw [List.length_map]
            omega
          refine ⟨ns[(b % (((ns.map V.int).length : Nat) : Int)).toNat], ?_⟩
          refine at_of ej ?_
          rw [List.getElem?_map]
          rw [List.getElem?_eq_getElem hj]
          rfl
        refine s_asg (ev_op (ev_dget (ev_var rfl) ev_c p5.d (penK_cells c _ r)) (ev_op (ev_int (ev_var rfl)) (ev_var rfl) (rv_I hn)) (rv_ixL (sq_of p5.l) hz)) fun H6 e6 => ?_
        have p6 := p5.ex e6
        have but6 := but3.trans (But.ofEx (e4.trans (e5.trans e6)))
        refine s_if (b := _) (et_and (et_test (ev_op (ev_var rfl) (ev_var rfl) rv_I0)) (fun _ => et_test (ev_op (ev_abs (ev_var rfl)) (ev_op ev_c ev_c (rv_I ⟨by decide, by decide, by decide⟩)) rv_I0))) (fun h7 H7 e7 => ?_) (fun h7 H7 e7 => ?_)
        · have p7 := p6.ex e7
          have big := of_decide_eq_true (Bool.and_eq_true_iff.mp h7).2
          refine s_dput (ev_var rfl) ev_c (ev_op (ev_op (ev_abs (ev_var rfl)) (ev_op ev_c ev_c (rv_I ⟨by decide, by decide, by decide⟩)) rv_I0) (ev_var rfl) (rv_I ⟨hm0, by omega⟩)) p7.d (by show 3 < 1000; decide) fun H8 e8 => ?_
          rw [penK_putR]
          dsimp only
          refine' s_ret ?hr1 (fun H9 e9 => ?kr1)
          case hr1 => exact ev_op (ev_op (ev_abs (ev_var rfl)) (ev_op ev_c ev_c (rv_I ⟨by decide, by decide, by decide⟩)) rv_I0) (ev_var rfl) (rv_I hm0)
          case kr1 =>
            refine k _ (b + 1) _ H9 (Int.emod_nonneg _ (by omega)) (Int.emod_lt_of_pos _ hm0) (by omega) (Int.le_refl _) (Int.ediv_nonneg (Int.sub_nonneg.mpr big) (by omega)) ((((but6.trans (But.ofEx (e7.trans e8))).upd)).trans (But.ofEx e9)) ⟨e9 _ _ upd_same, e9 _ _ (by rw [upd_ne p7.ne]; exact (p7.ex e8).l)⟩
        · refine s_nil ?_
          dsimp only
          refine' s_mod ?ha3 ?hb3 ?hc3 (fun z H8 z0 z1 e8 => ?km3)
          case ha3 => exact ev_int (ev_op (ev_op (ev_op (ev_op (ev_int (ev_var rfl)) ev_c (rv_I (by decide))) ev_c (rv_I (.inr ⟨by decide, by decide⟩))) (ev_op (ev_op ev_c (ev_var rfl) (rv_I (.inl ⟨by decide, by decide⟩))) (ev_var rfl) (rv_I (.inr ⟨by omega, by omega⟩))) rv_I0) ev_c rv_I0)
          case hb3 => exact ev_c
          case hc3 => decide
          dsimp only
          refine' s_mod ?ha4 ?hb4 ?hc4 (fun y H9 y0 y1 e9 => ?km4)
          case ha4 => exact ev_int (ev_op (ev_op (ev_op (ev_op (ev_var rfl) (ev_var rfl) (rv_I (.inl ⟨by omega, by omega⟩))) (ev_op ev_c (ev_var rfl) (rv_I (.inl ⟨by decide, by decide⟩))) rv_I0) (ev_op ev_c (ev_var rfl) (rv_I (.inl ⟨by decide, by decide⟩))) rv_I0) ev_c rv_I0)
          case hb4 => exact ev_c
          case hc4 => decide
          refine s_asg (ev_op (ev_op (ev_int (ev_op (ev_var rfl) (ev_op (ev_var rfl) ev_c rv_I0) (rv_I (.inl ⟨by omega, by omega⟩)))) ev_c (rv_I (by decide))) ev_c (rv_I ⟨by decide, by decide⟩)) fun H10 e10 => ?_
          dsimp only
          refine' s_ret ?hr21 (fun H11 e11 => ?kr21)
          case hr21 => exact ev_op (ev_int (ev_var rfl)) (ev_var rfl) (rv_I hm0)
          have e := e7.trans (e8.trans (e9.trans (e10.trans e11)))
          exact k _ (b + 1) r H11 (Int.emod_nonneg _ (by omega)) (Int.emod_lt_of_pos _ hm0) (by omega) (Int.le_refl _) hr0 (but6.trans (But.ofEx e)) (p6.ex e)
      · have p6 := (p3.ex e4).ex e5
        have but6 := but3.trans (But.ofEx (e4.trans e5))
        refine s_if (b := _) (et_and (et_test (ev_op (ev_var rfl) (ev_var rfl) rv_I0)) (fun _ => et_test (ev_op (ev_abs (ev_var rfl)) (ev_op ev_c ev_c (rv_I ⟨by decide, by decide, by decide⟩)) rv_I0))) (fun h7 H7 e7 => ?_) (fun h7 H7 e7 => ?_)
        · have p7 := p6.ex e7
          have big := of_decide_eq_true (Bool.and_eq_true_iff.mp h7).2
          refine s_dput (ev_var rfl) ev_c (ev_op (ev_op (ev_abs (ev_var rfl)) (ev_op ev_c ev_c (rv_I ⟨by decide, by decide, by decide⟩)) rv_I0) (ev_var rfl) (rv_I ⟨hm0, by omega⟩)) p7.d (by show 3 < 1000; decide) fun H8 e8 => ?_
          rw [penK_putR]
          dsimp only
          refine' s_ret ?hr2 (fun H9 e9 => ?kr2)
          case hr2 => exact ev_op (ev_op (ev_abs (ev_var rfl)) (ev_op ev_c ev_c (rv_I ⟨by decide, by decide, by decide⟩)) rv_I0) (ev_var rfl) (rv_I hm0)
          case kr2 =>
            refine k _ (b + 1) _ H9 (Int.emod_nonneg _ (by omega)) (Int.emod_lt_of_pos _ hm0) (by omega) (Int.le_refl _) (Int.ediv_nonneg (Int.sub_nonneg.mpr big) (by omega)) ((((but6.trans (But.ofEx (e7.trans e8))).upd)).trans (But.ofEx e9)) ⟨e9 _ _ upd_same, e9 _ _ (by rw [upd_ne p7.ne]; exact (p7.ex e8).l)⟩
        · refine s_nil ?_
          dsimp only
          refine' s_mod ?ha5 ?hb5 ?hc5 (fun z H8 z0 z1 e8 => ?km5)
          case ha5 => exact ev_int (ev_op (ev_op (ev_op (ev_op (ev_int (ev_var rfl)) ev_c (rv_I (by decide))) ev_c (rv_I (.inr ⟨by decide, by decide⟩))) (ev_op (ev_op ev_c (ev_var rfl) (rv_I (.inl ⟨by decide, by decide⟩))) (ev_var rfl) (rv_I (.inr ⟨by omega, by omega⟩))) rv_I0) ev_c rv_I0)
          case hb5 => exact ev_c
          case hc5 => decide
          dsimp only
          refine' s_mod ?ha6 ?hb6 ?hc6 (fun y H9 y0 y1 e9 => ?km6)
          case ha6 => exact ev_int (ev_op (ev_op (ev_op (ev_op (ev_var rfl) (ev_var rfl) (rv_I (.inl ⟨by omega, by omega⟩))) (ev_op ev_c (ev_var rfl) (rv_I (.inl ⟨by decide, by decide⟩))) rv_I0) (ev_op ev_c (ev_var rfl) (rv_I (.inl ⟨by decide, by decide⟩))) rv_I0) ev_c rv_I0)
          case hb6 => exact ev_c
          case hc6 => decide
          refine s_asg (ev_op (ev_op (ev_int (ev_op (ev_var rfl) (ev_op (ev_var rfl) ev_c rv_I0) (rv_I (.inl ⟨by omega, by omega⟩)))) ev_c (rv_I (by decide))) ev_c (rv_I ⟨by decide, by decide⟩)) fun H10 e10 => ?_
          dsimp only
          refine' s_ret ?hr22 (fun H11 e11 => ?kr22)
          case hr22 => exact ev_op (ev_int (ev_var rfl)) (ev_var rfl) (rv_I hm0)
          have e := e7.trans (e8.trans (e9.trans (e10.trans e11)))
          exact k _ (b + 1) r H11 (Int.emod_nonneg _ (by omega)) (Int.emod_lt_of_pos _ hm0) (by omega) (Int.le_refl _) hr0 (but6.trans (But.ofEx e)) (p6.ex e)
end
end L2.K0

namespace L2.K0
open PySem PySem.Spec PyProof.Rows Evl

/-! ### one of the options -/
def spPick : Sp := fun vs H Q _ => ∃ (p c l : Addr) (ns : List Int) (b r : Int) (xs : List V), vs = [.ref p, .ref l] ∧ PenAt H p c ns b r ∧ ns.length ≤ 63 ∧ 0 ≤ b ∧ b ≤ 1000000000 ∧ 0 ≤ r ∧ H l = some (.lst xs) ∧ xs ≠ [] ∧ xs.length ≤ 1000 ∧
  ∀ (j : Nat) (v : V) (b' r' : Int) (H' : Hp), xs[j]? = some v → b ≤ b' → b' ≤ b + 1 → 0 ≤ r' → But p H H' → PenAt H' p c ns b' r' → Q v H'
section
variable {P : Program} {w : World} {K : PySem.W.Frag} {mg : Str → Option Value} {base : Heap} {f fD : Addr} {fd fdD : FuncData}
theorem scPick : FnScope ["_law_pen_here", "_law_options"] ["_law_pen_here", "_law_options"] (defScope sPick) := ⟨rfl, rfl, rfl, by decide +kernel, rfl, by decide +kernel, by decide +kernel⟩
theorem ok_pick (F : Fun K "_law_pick" "_law_pick" sPick f fd) (T : MgB mg) (FD : Fun K "_law_draw" "_law_draw" sDraw fD fdD) (bD : Binds K fdD ["_law_pen_here", "_law_many"] []) (gD : mg "_law_draw" = some (.ref fD)) :
    FnOk P w K mg base CX0 2 f fd ["_law_pen_here", "_law_options"] spPick := by
  have GD : FnOk P w K mg base CX0 1 fD fdD ["_law_pen_here", "_law_many"] spDraw := ok_draw FD T
  refine F.ok scPick (fun vs H Q E h => ?_) (fun cdv A outer s H vs Q E hr h => ?_)
  · obtain ⟨p, c, l, ns, b, r, xs, rfl, _⟩ := h
    rfl
  · obtain ⟨p, c, l, ns, b, r, xs, rfl, pen, hl, hb0, hb1, hr0, hx, hne, hz, k⟩ := h
    refine ⟨_, pss_one (ps_ret (pe_ix ix_list (pv 1) (pe_call GD hr rfl gD FD.kp bD .nil pass0 (pa_cons (pv 0) (pa_cons (pe_callB call_len_seq (by rfl) T.len boot_len (pa_cons (pv 1) pa_nil)) pa_nil))) (fun _ _ => rfl))), ?_⟩
    have hpos : 0 < xs.length := List.length_pos_iff.mpr hne
    refine ⟨_, rfl, _, rfl, _, rfl, l, xs, rfl, .inl (sq_of hx), p, c, ns, b, r, _, rfl, pen, hl, hb0, hb1, hr0, by omega, by omega, fun z b' r' H' z0 z1 hb hb2 hr2 but pen' => ?_⟩
    have hj : z.toNat < xs.length := by omega
    have nlp : l ≠ p := ne_of hx pen.d (by intro z; cases z)
    refine ⟨l, xs, z, xs[z.toNat], rfl, rfl, sq_of (but _ _ hx nlp), at_of (by omega) (List.getElem?_eq_getElem hj), ?_⟩
    exact k z.toNat _ b' r' H' (List.getElem?_eq_getElem hj) hb hb2 hr2 but pen'
end

/-! ### data that a display makes -/
def MkD (K : PySem.W.Frag) (te : TE) (d : PyData) : Prop := ∀ (σ : L2.St) (H : Hp) (Q : VK), (∀ v H', Ex H H' → Dp K H' v d → Q v H') → te σ H Q
def MkA (K : PySem.W.Frag) (ta : TA) (ds : List PyData) : Prop := ∀ (σ : L2.St) (H : Hp) (Q : List V → Hp → Prop), (∀ vs H', Ex H H' → DpAll K H' vs ds → Q vs H') → ta σ H Q
def MkX (K : PySem.W.Frag) (te : TE) (d : PyData) : Prop := ∀ (σ : L2.St) (H : Hp) (Q : VK), (∀ v H', Ex H H' → Ox K H' v d → Q v H') → te σ H Q
def MkXs (K : PySem.W.Frag) (ta : TA) (ds : List PyData) : Prop := ∀ (σ : L2.St) (H : Hp) (Q : List V → Hp → Prop), (∀ vs H', Ex H H' → Paired (Ox K H') vs ds → Q vs H') → ta σ H Q
section
variable {K : PySem.W.Frag} {te : TE} {ta : TA} {d : PyData} {ds : List PyData}
theorem DpAll.len {H : Hp} : ∀ {vs : List V} {ds : List PyData}, DpAll K H vs ds → vs.length = ds.length
  | _, _, .nil => rfl
  | _, _, .cons _ t => congrArg Nat.succ (DpAll.len t)
theorem mk_non : MkD K (tC .non) .none := fun σ H Q q => q _ H (Ex.refl H) .non
theorem mk_bl {b : Bool} : MkD K (tC (.bl b)) (.bool b) := fun σ H Q q => q _ H (Ex.refl H) (.bl b)
theorem mk_int {i : Int} : MkD K (tC (.int i)) (.int i) := fun σ H Q q => q _ H (Ex.refl H) (.int i)
theorem mk_str {x : Str} : MkD K (tC (.str x)) (.str x) := fun σ H Q q => q _ H (Ex.refl H) (.str x)
theorem mk_neg {i : Int} : MkD K (tUn (rU fun i => .int (-i)) (tC (.int i))) (.int (-i)) := fun σ H Q q => ⟨i, rfl, q _ H (Ex.refl H) (.int _)⟩
theorem mk_pow {i j : Int} (h : CPow i j) : MkD K (tOp (rI CPow fun i j => .int (i ^ j.toNat)) (tC (.int i)) (tC (.int j))) (.int (i ^ j.toNat)) := fun σ H Q q => ⟨i, j, rfl, rfl, h, q _ H (Ex.refl H) (.int _)⟩
theorem mka_nil : MkA K tNil [] := fun σ H Q q => q _ H (Ex.refl H) .nil
theorem mka_cons (h : MkD K te d) (t : MkA K ta ds) : MkA K (tCons te ta) (d :: ds) := fun σ H Q q => h σ H _ fun v H1 e1 h1 => t σ H1 _ fun vs H2 e2 h2 => q _ H2 (e1.trans e2) (.cons (Dp.same e2 h1) h2)
theorem mk_tup (h : MkA K ta ds) (hz : ds.length ≤ 1000) : MkD K (tTup ta) (.tuple ds) := fun σ H Q q => h σ H _ fun vs H1 e1 h1 =>
  ⟨sz_of (by rw [DpAll.len h1]; omega), fun p hp => q _ _ (e1.trans (Ex.new hp)) (.tup (st_of upd_same) (DpAll.same (Ex.new hp) h1))⟩
theorem mk_lst (h : MkA K ta ds) (hz : ds.length ≤ 1000) : MkD K (tLst ta) (.list ds) := fun σ H Q q => h σ H _ fun vs H1 e1 h1 =>
  ⟨sz_of (by rw [DpAll.len h1]; omega), fun p hp => q _ _ (e1.trans (Ex.new hp)) (.lst (sq_of upd_same) (DpAll.same (Ex.new hp) h1))⟩
theorem mkx (h : MkD K te d) : MkX K te d := fun σ H Q q => h σ H Q fun v H' e z => q v H' e (.dat z)
theorem mkx_d0 : MkX K tDNewK (.dict []) := fun σ H Q q => fun p hp => q _ _ (Ex.new hp) (.dic0 upd_same)
theorem mkx_d1 : MkX K (tDisp [(tC (.str "a"), tC (.int 1))]) (.dict [(.str "a", .int 1)]) := fun σ H Q q => fun p hp => by
  refine ⟨upd_same, [(.inr "a", .int 1)], rfl, (by show 1 ≤ 15; decide), ?_⟩
  rw [upd_upd]
  exact q _ _ (Ex.new hp) (.dic1 upd_same)
theorem mkxs_nil : MkXs K tNil [] := fun σ H Q q => q _ H (Ex.refl H) .nil
theorem mkxs_cons (h : MkX K te d) (t : MkXs K ta ds) : MkXs K (tCons te ta) (d :: ds) := fun σ H Q q => h σ H _ fun v H1 e1 h1 => t σ H1 _ fun vs H2 e2 h2 => q _ H2 (e1.trans e2) (.cons (Ox.same e2 h1) h2)
theorem oxs_same {H H' : Hp} {vs : List V} {ds : List PyData} (e : Ex H H') (h : Paired (Ox K H) vs ds) : Paired (Ox K H') vs ds := Paired.mapP h fun _ _ z => Ox.same e z
theorem oxs_app {H : Hp} : ∀ {vs ws : List V} {ds es : List PyData}, Paired (Ox K H) vs ds → Paired (Ox K H) ws es → Paired (Ox K H) (vs ++ ws) (ds ++ es)
  | _, _, _, _, .nil, q => q
  | _, _, _, _, .cons h t, q => .cons h (oxs_app t q)
theorem oxs_at {H : Hp} : ∀ {vs : List V} {ds : List PyData} {j : Nat} {v : V}, Paired (Ox K H) vs ds → vs[j]? = some v → ∃ d ∈ ds, Ox K H v d
  | _, _, _, _, .nil, q => by simp at q
  | _, _, 0, _, .cons h t, q => by
    simp at q
    subst q
    exact ⟨_, List.mem_cons_self .., h⟩
  | _, _, j + 1, v, .cons h t, q => by
    obtain ⟨d, hd, z⟩ := oxs_at (j := j) (v := v) t (by simpa using q)
    exact ⟨d, List.mem_cons_of_mem _ hd, z⟩
theorem catX {i : Nat} {σ : L2.St} {H : Hp} {p : Addr} {vs : List V} {es : List PyData} {Q : VK} (hi : σ[i]? = some (some (.ref p))) (hp : H p = some (.lst vs)) (hv : Paired (Ox K H) vs ds) (h : MkXs K ta es) (hz : ds.length ≤ 1000 ∧ es.length ≤ 1000)
    (q : ∀ a ws H1, Ex H H1 → H1 a = some (.lst ws) → Paired (Ox K H1) ws (ds ++ es) → Q (.ref a) H1) : tOp rCat (tVar i) (tLst ta) σ H Q :=
  ⟨_, hi, h σ H _ fun ws H1 e1 h1 => ⟨sz_of (by rw [h1.length]; omega), fun l hl =>
    have e2 : Ex H1 (upd H1 l (.lst ws)) := Ex.new hl
    ⟨p, l, vs, ws, rfl, rfl, e2 _ _ (e1 _ _ hp), upd_same, sz_of (by rw [h1.length, hv.length]; omega), fun a ha =>
      have e3 : Ex (upd H1 l (.lst ws)) (upd (upd H1 l (.lst ws)) a (.lst (vs ++ ws))) := Ex.new ha
      q a _ _ (e1.trans (e2.trans e3)) upd_same (oxs_app (oxs_same (e1.trans (e2.trans e3)) hv) (oxs_same (e2.trans e3) h1))⟩⟩⟩
end

section
variable {K : PySem.W.Frag} {ta : TA} {ds : List PyData}
theorem s_mkl {i : Nat} {σ : L2.St} {H : Hp} {D : Ends} (h : MkXs K ta ds) (hz : ds.length ≤ 1000) (q : ∀ p vs H1, Ex H H1 → H p = none → H1 p = some (.lst vs) → Paired (Ox K H1) vs ds → D.nx (σ.set i (some (.ref p))) H1) : tAsg (tLst ta) (gName i) D σ H :=
  h σ H _ fun vs H1 e1 h1 => ⟨sz_of (by rw [h1.length]; omega), fun p hp =>
    have e2 : Ex H1 (upd H1 p (.lst vs)) := Ex.new hp
    q p vs _ (e1.trans e2) (fresh_back e1 hp) upd_same (oxs_same e2 h1)⟩
end

/-! ### a change of a dict alone -/
mutual
theorem Dp.butK {K : PySem.W.Frag} {H H' : Hp} (s : ∀ a o, H a = some o → (∀ kvs, o ≠ .dK kvs) → H' a = some o) : ∀ {v : V} {d : PyData}, Dp K H v d → Dp K H' v d
  | _, _, .non => .non
  | _, _, .bl b => .bl b
  | _, _, .int i => .int i
  | _, _, .str x => .str x
  | _, _, .lst h q => .lst (by
      rcases h with (h | ⟨o, h⟩) | h
      · exact .inl (.inl (s _ _ h fun _ z => by cases z))
      · exact .inl (.inr ⟨o, s _ _ h fun _ z => by cases z⟩)
      · exact .inr h) (DpAll.butK s q)
  | _, _, .tup h q => .tup (by
      rcases h with (h | ⟨o, h⟩) | h
      · exact .inl (.inl (s _ _ h fun _ z => by cases z))
      · exact .inl (.inr ⟨o, s _ _ h fun _ z => by cases z⟩)
      · exact .inr h) (DpAll.butK s q)
theorem DpAll.butK {K : PySem.W.Frag} {H H' : Hp} (s : ∀ a o, H a = some o → (∀ kvs, o ≠ .dK kvs) → H' a = some o) : ∀ {vs : List V} {ds : List PyData}, DpAll K H vs ds → DpAll K H' vs ds
  | _, _, .nil => .nil
  | _, _, .cons h q => .cons (Dp.butK s h) (DpAll.butK s q)
end
theorem Ox.but {K : PySem.W.Frag} {H H' : Hp} {p c : Addr} {ns : List Int} {b r : Int} {v : V} {d : PyData} (pen : PenAt H p c ns b r) (e : But p H H') (h : Ox K H v d) : Ox K H' v d := by
  cases h with
  | dat h => exact .dat (Dp.butK (fun a o ha hn => e a o ha fun z => hn _ (by rw [z, pen.d] at ha; exact (Option.some.inj ha).symm)) h)
  | @dic0 a h => exact .dic0 (e _ _ h (ne_of h pen.d (by intro z; cases z)))
  | @dic1 a h => exact .dic1 (e _ _ h (ne_of h pen.d (by intro z; cases z)))

/-! ### the odd values -/
def odds1 : List PyData := [.none, .bool true, .bool false, .int 0, .int 1, .int (-1), .int 2, .int 7, .int ((10 : Int) ^ (30 : Int).toNat), .int ((10 : Int) ^ (60 : Int).toNat), .str "", .str "a", .str "A", .str "ab cd", .str "abcdefghi", .str "a1", .tuple [], .list []]
def odds2 : List PyData := [.dict [], .tuple [.str "a"], .list [.str "a"], .tuple [.int 0], .tuple [.int 0, .int 1], .tuple [.int 0, .int 0, .int 0], .dict [(.str "a", .int 1)], .list [.none], .tuple [.none, .str "a"], .tuple [.str "a", .tuple []], .int (-5)]
def odds3 : List PyData := [.tuple [.str "alone", .str "a"], .tuple [.str "record", .str "a"], .tuple [.str "bundle", .tuple [.str "a", .str "b"]], .list [.list []], .tuple [.bool true]]
def odds : List PyData := odds1 ++ odds2 ++ odds3
def spOdd (K : PySem.W.Frag) : Sp := fun vs H Q _ => ∃ (p c : Addr) (ns : List Int) (b r : Int), vs = [.ref p] ∧ PenAt H p c ns b r ∧ ns.length ≤ 63 ∧ 0 ≤ b ∧ b ≤ 1000000000 ∧ 0 ≤ r ∧
  ∀ v d b' r' H', d ∈ odds → Ox K H' v d → b ≤ b' → b' ≤ b + 1 → 0 ≤ r' → But p H H' → PenAt H' p c ns b' r' → Q v H'
section
variable {P : Program} {w : World} {K : PySem.W.Frag} {mg : Str → Option Value} {base : Heap} {f fD fP : Addr} {fd fdD fdP : FuncData}
theorem scOdd : FnScope ["_law_pen_here", "_law_some"] ["_law_pen_here"] (defScope sOdd) := ⟨rfl, rfl, rfl, by decide +kernel, rfl, by decide +kernel, by decide +kernel⟩
theorem ok_odd (F : Fun K "_law_odd" "_law_odd" sOdd f fd) (GP : FnOk P w K mg base CX0 2 fP fdP ["_law_pen_here", "_law_options"] spPick) (kP : PySem.W.keepIn K (.ref fP) = true) (bP : Binds K fdP ["_law_pen_here", "_law_options"] [])
    (gP : mg "_law_pick" = some (.ref fP)) : FnOk P w K mg base CX0 3 f fd ["_law_pen_here"] (spOdd K) := by
  refine F.ok scOdd (fun vs H Q E h => ?_) (fun cdv A outer s H vs Q E hr h => ?_)
  · obtain ⟨p, c, ns, b, r, rfl, _⟩ := h
    rfl
  · obtain ⟨p, c, ns, b, r, rfl, pen, hl, hb0, hb1, hr0, k⟩ := h
    refine ⟨_, pss_cons (ps_set (i := 1) scOdd.nd rfl (Or.inl rfl) (pe_lst (pa_cons pe_non (pa_cons pe_bl (pa_cons pe_bl (pa_cons pe_int (pa_cons pe_int (pa_cons (pe_un un_neg pe_int) (pa_cons pe_int (pa_cons pe_int (pa_cons (pe_op op_pow pe_int pe_int) (pa_cons (pe_op op_pow pe_int pe_int) (pa_cons pe_str (pa_cons pe_str (pa_cons pe_str (pa_cons pe_str (pa_cons pe_str (pa_cons pe_str (pa_cons (pe_tup pa_nil) (pa_cons (pe_lst pa_nil) pa_nil))))))))))))))))))))
      (pss_cons (ps_set (i := 1) scOdd.nd rfl (Or.inl rfl) (pe_op op_cat (pv 1) (pe_lst (pa_cons pe_dnewK (pa_cons (pe_tup (pa_cons pe_str pa_nil)) (pa_cons (pe_lst (pa_cons pe_str pa_nil)) (pa_cons (pe_tup (pa_cons pe_int pa_nil)) (pa_cons (pe_tup (pa_cons pe_int (pa_cons pe_int pa_nil))) (pa_cons (pe_tup (pa_cons pe_int (pa_cons pe_int (pa_cons pe_int pa_nil)))) (pa_cons (pe_disp (pps_cons pe_str pe_int pps_nil) rfl rfl (by simp) (by decide)) (pa_cons (pe_lst (pa_cons pe_non pa_nil)) (pa_cons (pe_tup (pa_cons pe_non (pa_cons pe_str pa_nil))) (pa_cons (pe_tup (pa_cons pe_str (pa_cons (pe_tup pa_nil) pa_nil))) (pa_cons (pe_un un_neg pe_int) pa_nil))))))))))))))
      (pss_one (ps_ret (pe_call GP hr rfl gP kP bP .nil pass0 (pa_cons (pv 0) (pa_cons (pe_op op_cat (pv 1) (pe_lst (pa_cons (pe_tup (pa_cons pe_str (pa_cons pe_str pa_nil))) (pa_cons (pe_tup (pa_cons pe_str (pa_cons pe_str pa_nil))) (pa_cons (pe_tup (pa_cons pe_str (pa_cons (pe_tup (pa_cons pe_str (pa_cons pe_str pa_nil))) pa_nil))) (pa_cons (pe_lst (pa_cons (pe_lst pa_nil) pa_nil)) (pa_cons (pe_tup (pa_cons pe_bl pa_nil)) pa_nil))))))) pa_nil)))))), ?_⟩
    refine s_mkl (K := K) (ds := odds1) (mkxs_cons (mkx mk_non) (mkxs_cons (mkx mk_bl) (mkxs_cons (mkx mk_bl) (mkxs_cons (mkx mk_int) (mkxs_cons (mkx mk_int) (mkxs_cons (mkx mk_neg) (mkxs_cons (mkx mk_int) (mkxs_cons (mkx mk_int) (mkxs_cons (mkx (mk_pow ⟨by decide, by decide, by decide⟩)) (mkxs_cons (mkx (mk_pow ⟨by decide, by decide, by decide⟩)) (mkxs_cons (mkx mk_str) (mkxs_cons (mkx mk_str) (mkxs_cons (mkx mk_str) (mkxs_cons (mkx mk_str) (mkxs_cons (mkx mk_str) (mkxs_cons (mkx mk_str) (mkxs_cons (mkx (mk_tup mka_nil (by decide))) (mkxs_cons (mkx (mk_lst mka_nil (by decide))) mkxs_nil)))))))))))))))))) (by decide) fun p1 v1 H1 e1 np1 h1 x1 => ?_
    have s1 : ((start ["_law_pen_here", "_law_some"] [.ref p]).set 1 (some (V.ref p1)))[1]? = some (some (.ref p1)) := rfl
    refine catX (K := K) (es := odds2) s1 h1 x1 (mkxs_cons mkx_d0 (mkxs_cons (mkx (mk_tup (mka_cons mk_str mka_nil) (by decide))) (mkxs_cons (mkx (mk_lst (mka_cons mk_str mka_nil) (by decide))) (mkxs_cons (mkx (mk_tup (mka_cons mk_int mka_nil) (by decide))) (mkxs_cons (mkx (mk_tup (mka_cons mk_int (mka_cons mk_int mka_nil)) (by decide))) (mkxs_cons (mkx (mk_tup (mka_cons mk_int (mka_cons mk_int (mka_cons mk_int mka_nil))) (by decide))) (mkxs_cons mkx_d1 (mkxs_cons (mkx (mk_lst (mka_cons mk_non mka_nil) (by decide))) (mkxs_cons (mkx (mk_tup (mka_cons mk_non (mka_cons mk_str mka_nil)) (by decide))) (mkxs_cons (mkx (mk_tup (mka_cons mk_str (mka_cons (mk_tup mka_nil (by decide)) mka_nil)) (by decide))) (mkxs_cons (mkx mk_neg) mkxs_nil))))))))))) (by decide) fun p2 v2 H2 e2 h2 x2 => ?_
    have s2 : (((start ["_law_pen_here", "_law_some"] [.ref p]).set 1 (some (V.ref p1))).set 1 (some (V.ref p2)))[1]? = some (some (.ref p2)) := rfl
    refine ⟨_, rfl, catX (K := K) (es := odds3) s2 h2 x2 (mkxs_cons (mkx (mk_tup (mka_cons mk_str (mka_cons mk_str mka_nil)) (by decide))) (mkxs_cons (mkx (mk_tup (mka_cons mk_str (mka_cons mk_str mka_nil)) (by decide))) (mkxs_cons (mkx (mk_tup (mka_cons mk_str (mka_cons (mk_tup (mka_cons mk_str (mka_cons mk_str mka_nil)) (by decide)) mka_nil)) (by decide))) (mkxs_cons (mkx (mk_lst (mka_cons (mk_lst mka_nil (by decide)) mka_nil) (by decide))) (mkxs_cons (mkx (mk_tup (mka_cons mk_bl mka_nil) (by decide))) mkxs_nil))))) (by decide) fun p3 v3 H3 e3 h3 x3 => ?_⟩
    have e := e1.trans (e2.trans e3)
    have pen3 := pen.ex e
    have hz : v3.length = 34 := x3.length
    refine ⟨p, c, p3, ns, b, r, v3, rfl, pen3, hl, hb0, hb1, hr0, h3, (fun z => by rw [z] at hz; cases hz), by omega, fun j v b' r' H4 hj hb hb2 hr2 but pen4 => ?_⟩
    obtain ⟨d, hd, ox⟩ := oxs_at x3 hj
    exact k v d b' r' H4 hd (Ox.but pen3 but ox) hb hb2 hr2 ((But.ofEx e).trans but) pen4
end
end L2.K0

namespace L2.K0
open PySem PySem.Spec PyProof.Rows Evl

/-! ### the 33 classes, in the law's own order -/
def nmL : List String := ["DuplicateName", "WrongKind", "WrongCount", "Endless", "InvalidList", "InvalidWeights", "InvalidNumber", "InvalidName", "InUse", "GivenAway", "NotSame", "CommandError", "UnknownName", "UnknownPoint", "UnknownUnit", "UnknownMoment", "InvalidIndex", "OutOfRange", "NotHeld", "NotFlag", "TooDear", "Leaks", "TooMany", "TooLong", "InvalidBundle", "InvalidWorld", "InvalidProgram", "Unreadable", "OtherProgram", "NotJoined", "NothingToUndo", "NothingToRedo", "InTrial"]
def flL : List String := ["value", "value", "value", "value", "value", "value", "value", "value", "value", "value", "value", "value", "value", "value", "value", "value", "value", "value", "value", "value", "value", "value", "limit", "limit", "index", "index", "place", "line"]
def kdL : List Nat := [0, 0, 0, 0, 0, 0, 0, 0, 0, 0, 0, 0, 1, 1, 1, 1, 1, 1, 1, 2, 3, 4, 3, 3, 0, 0, 0, 0, 0, 0, 1, 1, 4]
def nmS (j : Nat) : Str := Str.ofString (nmL.getD j "")
def flS (j : Nat) : Str := Str.ofString (flL.getD j "")
def kd (j : Nat) : Nat := kdL.getD j 9
def bN : Nat → String | 0 => "ValueError" | 1 => "LookupError" | 2 => "TypeError" | 3 => "OverflowError" | _ => "RuntimeError"
def bmL : Nat → List Value
  | 0 => [.type "ValueError", .type "Exception", .type "BaseException", .type "object"]
  | 1 => [.type "LookupError", .type "Exception", .type "BaseException", .type "object"]
  | 2 => [.type "TypeError", .type "Exception", .type "BaseException", .type "object"]
  | 3 => [.type "OverflowError", .type "ArithmeticError", .type "Exception", .type "BaseException", .type "object"]
  | _ => [.type "RuntimeError", .type "Exception", .type "BaseException", .type "object"]
structure Cs (P : Program) (w : World) (K : PySem.W.Frag) (mg : Str → Option Value) (base : Heap) (C : Nat → Addr) : Prop where
  ec : ∀ j, j < 28 → EC P w K mg base (nmS j) (flS j) (C j)
  er : ∀ j, j < 33 → ∃ newId initId, ErrC K (C j) (bN (kd j)) newId initId (bmL (kd j)) ∧ (28 ≤ j → PySem.W.findIn K (.ref (C j)) "__init__" = some (some (.builtin initId)))
  gx : ∀ j, j < 33 → mg (nmS j) = some (.ref (C j))
  inj : ∀ i j, i < 33 → j < 33 → C i = C j → i = j
section
variable {P : Program} {w : World} {K : PySem.W.Frag} {mg : Str → Option Value} {base : Heap} {C : Nat → Addr}
theorem kd_lt : ∀ j, j < 33 → kd j < 5 := by decide
theorem bm_ref : ∀ (k : Nat) (a : Addr), (bmL k).contains (.ref a) = false := by
  intro k a
  match k with
  | 0 => rfl
  | 1 => rfl
  | 2 => rfl
  | 3 => rfl
  | _ + 4 => rfl
theorem bm_ty : ∀ i, i < 5 → ∀ k, k < 5 → (bmL i).contains (.type (bN k)) = decide (i = k) := by decide
theorem meta5 : ∀ k, k < 5 → PySem.W.kitMeta (bN k) = true := by decide +kernel
theorem kit_own (cs : Cs P w K mg base C) {i j : Nat} (hi : i < 33) (hj : j < 33) : PySem.W.kitOne K (.ref (C i)) (.ref (C j)) = some (decide (i = j)) := by
  obtain ⟨n1, i1, T1, _⟩ := cs.er i hi
  obtain ⟨n2, i2, T2, _⟩ := cs.er j hj
  obtain ⟨cd, hcd, _, _⟩ := T2.data
  unfold PySem.W.kitOne
  by_cases e : i = j
  · subst e
    simp
  · have ne : (Value.ref (C i) == Value.ref (C j)) = false := beq_eq_false_iff_ne.mpr fun z => e (cs.inj i j hi hj (Value.ref.inj z))
    rw [ne, decide_eq_false e, if_neg Bool.false_ne_true]
    unfold PySem.W.kitCls
    have h1 : ((PySem.W.clsIn K (C j)).isSome && PySem.W.typeIn K (.ref (C j)) == some (.type "type")) = true := by rw [hcd, T2.ty]; rfl
    dsimp only
    rw [if_pos h1]
    show PySem.W.mroIn K (C i) _ = _
    have ne2 : (Value.ref (C j) == Value.ref (C i)) = false := beq_eq_false_iff_ne.mpr fun z => e (cs.inj j i hj hi (Value.ref.inj z)).symm
    rw [T1.mro, List.contains_cons, bm_ref, ne2]
    rfl
theorem kit_bty (cs : Cs P w K mg base C) {i k : Nat} (hi : i < 33) (hk : k < 5) : PySem.W.kitOne K (.ref (C i)) (.type (bN k)) = some (decide (kd i = k)) := by
  obtain ⟨n1, i1, T1, _⟩ := cs.er i hi
  unfold PySem.W.kitOne
  rw [if_neg (by intro z; cases z)]
  unfold PySem.W.kitCls
  dsimp only
  rw [if_pos (meta5 k hk)]
  show PySem.W.mroIn K (C i) _ = _
  rw [T1.mro, List.contains_cons, bm_ty _ (kd_lt i hi) _ hk]
  rfl
end

/-! ### lists that displays make, item by item -/
def MkR {α : Type} (R : Hp → V → α → Prop) (Pre : Hp → Prop) (i : Nat) (v : V) (ta : TA) (as : List α) : Prop := ∀ (σ : L2.St) (H : Hp) (Q : List V → Hp → Prop), σ[i]? = some (some v) → Pre H → (∀ xs H', Ex H H' → Paired (R H') xs as → Q xs H') → ta σ H Q
section
variable {α : Type} {R : Hp → V → α → Prop} {Pre : Hp → Prop} {i : Nat} {v : V} {ta : TA} {te : TE} {as bs : List α} {a : α}
theorem mkr_nil : MkR R Pre i v tNil ([] : List α) := fun σ H Q _ _ q => q _ H (Ex.refl H) .nil
theorem prd_same (mono : ∀ H H' x a, Ex H H' → R H x a → R H' x a) {H H' : Hp} {xs : List V} (e : Ex H H') (h : Paired (R H) xs as) : Paired (R H') xs as := Paired.mapP h fun x a z => mono H H' x a e z
theorem mkr_cons (mono : ∀ H H' x a, Ex H H' → R H x a → R H' x a) (pm : ∀ H H', Ex H H' → Pre H → Pre H') (h : ∀ (σ : L2.St) (H : Hp) (Q : VK), σ[i]? = some (some v) → Pre H → (∀ x H', Ex H H' → R H' x a → Q x H') → te σ H Q) (t : MkR R Pre i v ta as) :
    MkR R Pre i v (tCons te ta) (a :: as) := fun σ H Q hi hp q => h σ H _ hi hp fun x H1 e1 h1 => t σ H1 _ hi (pm _ _ e1 hp) fun xs H2 e2 h2 => q _ H2 (e1.trans e2) (.cons (mono _ _ _ _ e2 h1) h2)
theorem prd_app {H : Hp} : ∀ {xs ys : List V} {as bs : List α}, Paired (R H) xs as → Paired (R H) ys bs → Paired (R H) (xs ++ ys) (as ++ bs)
  | _, _, _, _, .nil, q => q
  | _, _, _, _, .cons h t, q => .cons h (prd_app t q)
theorem s_mkr {l : Nat} {σ : L2.St} {H : Hp} {D : Ends} (mono : ∀ H H' x a, Ex H H' → R H x a → R H' x a) (h : MkR R Pre i v ta as) (hi : σ[i]? = some (some v)) (hp : Pre H) (hz : as.length ≤ 1000)
    (q : ∀ p xs H1, Ex H H1 → H p = none → H1 p = some (.lst xs) → Paired (R H1) xs as → D.nx (σ.set l (some (.ref p))) H1) : tAsg (tLst ta) (gName l) D σ H :=
  h σ H _ hi hp fun xs H1 e1 h1 => ⟨sz_of (by rw [h1.length]; omega), fun p hp =>
    have e2 : Ex H1 (upd H1 p (.lst xs)) := Ex.new hp
    q p xs _ (e1.trans e2) (fresh_back e1 hp) upd_same (prd_same mono e2 h1)⟩
theorem cat_mkr {l : Nat} {σ : L2.St} {H : Hp} {p : Addr} {xs : List V} {Q : VK} (mono : ∀ H H' x a, Ex H H' → R H x a → R H' x a) (hl : σ[l]? = some (some (.ref p))) (hx : H p = some (.lst xs)) (hv : Paired (R H) xs as) (h : MkR R Pre i v ta bs) (hi : σ[i]? = some (some v)) (hp : Pre H)
    (hz : as.length ≤ 1000 ∧ bs.length ≤ 1000) (q : ∀ a ws H1, Ex H H1 → H a = none → H1 a = some (.lst ws) → Paired (R H1) ws (as ++ bs) → Q (.ref a) H1) : tOp rCat (tVar l) (tLst ta) σ H Q :=
  ⟨_, hl, h σ H _ hi hp fun ws H1 e1 h1 => ⟨sz_of (by rw [h1.length]; omega), fun m hm =>
    have e2 : Ex H1 (upd H1 m (.lst ws)) := Ex.new hm
    ⟨p, m, xs, ws, rfl, rfl, e2 _ _ (e1 _ _ hx), upd_same, sz_of (by rw [h1.length, hv.length]; omega), fun a ha =>
      have e3 : Ex (upd H1 m (.lst ws)) (upd (upd H1 m (.lst ws)) a (.lst (xs ++ ws))) := Ex.new ha
      q a _ _ (e1.trans (e2.trans e3)) (fresh_back (e1.trans e2) ha) upd_same (prd_app (prd_same mono (e1.trans (e2.trans e3)) hv) (prd_same mono (e2.trans e3) h1))⟩⟩⟩
/-- .. stored by the name again -/
theorem s_catr {l : Nat} {σ : L2.St} {H : Hp} {D : Ends} {p : Addr} {xs : List V} (mono : ∀ H H' x a, Ex H H' → R H x a → R H' x a) (h : MkR R Pre i v ta bs) (hl : σ[l]? = some (some (.ref p))) (hx : H p = some (.lst xs)) (hv : Paired (R H) xs as) (hi : σ[i]? = some (some v)) (hp : Pre H)
    (hz : as.length ≤ 1000 ∧ bs.length ≤ 1000) (q : ∀ a ws H1, Ex H H1 → H a = none → H1 a = some (.lst ws) → Paired (R H1) ws (as ++ bs) → D.nx (σ.set l (some (.ref a))) H1) : tAsg (tOp rCat (tVar l) (tLst ta)) (gName l) D σ H :=
  cat_mkr (Q := fun x H1 => gName l x σ H1 D.nx) mono hl hx hv h hi hp hz q
theorem s_retr {l : Nat} {σ : L2.St} {H : Hp} {D : Ends} {p : Addr} {xs : List V} (mono : ∀ H H' x a, Ex H H' → R H x a → R H' x a) (h : MkR R Pre i v ta bs) (hl : σ[l]? = some (some (.ref p))) (hx : H p = some (.lst xs)) (hv : Paired (R H) xs as) (hi : σ[i]? = some (some v)) (hp : Pre H)
    (hz : as.length ≤ 1000 ∧ bs.length ≤ 1000) (q : ∀ a ws H1, Ex H H1 → H a = none → H1 a = some (.lst ws) → Paired (R H1) ws (as ++ bs) → D.rt (.ref a) H1) : tRet (tOp rCat (tVar l) (tLst ta)) D σ H :=
  cat_mkr (Q := D.rt) mono hl hx hv h hi hp hz q
end

/-! ### an error that holds a value -/
def ErrV (C : Nat → Addr) (v : V) (H : Hp) (x : V) (j : Nat) : Prop := ∃ (a d : Addr), x = .ref a ∧ H a = some (exo a (C j) (some d)) ∧ H d = some (exd d [(flS j, v)])
theorem errV_mono {C : Nat → Addr} {v : V} : ∀ (H H' : Hp) (x : V) (j : Nat), Ex H H' → ErrV C v H x j → ErrV C v H' x j := fun H H' x j e ⟨a, d, h0, h1, h2⟩ => ⟨a, d, h0, e _ _ h1, e _ _ h2⟩
theorem ErrV.is {C : Nat → Addr} {v : V} {H : Hp} {x : V} {j : Nat} (h : ErrV C v H x j) : IsErr H x (C j) := by
  obtain ⟨a, d, h0, h1, h2⟩ := h
  exact ⟨a, some d, h0, h1, fun dx z => by cases z; exact ⟨_, h2⟩⟩
abbrev PreT : Hp → Prop := fun _ => True
theorem mke {C : Nat → Addr} {v : V} {i j : Nat} {ta : TA} {js : List Nat} (t : MkR (ErrV C v) PreT i v ta js) : MkR (ErrV C v) PreT i v (tCons (tErr (C j) (flS j) (tVar i)) ta) (j :: js) :=
  mkr_cons errV_mono (fun _ _ _ _ => trivial) (fun σ H Q hi _ q => ⟨v, hi, fun a d na nd ne => q _ _ (fun b o hb => by
    rw [upd_ne (ne_of_none hb na), upd_ne (ne_of_none hb nd)]
    exact hb) ⟨a, d, rfl, upd_same, by rw [upd_ne ne]; exact upd_same⟩⟩) t
theorem IsErr.ex {C : Addr} {v : V} (H H' : Hp) (e : Ex H H') (h : IsErr H v C) : IsErr H' v C := h.same e
/-- the answers of isinstance, one by one -/
def BlR : Hp → V → Bool → Prop := fun _ x b => x = .bl b
theorem blR_mono : ∀ (H H' : Hp) (x : V) (b : Bool), Ex H H' → BlR H x b → BlR H' x b := fun _ _ _ _ _ h => h
theorem blR_list {H : Hp} : ∀ {xs : List V} {bs : List Bool}, Paired (BlR H) xs bs → xs = bs.map V.bl
  | _, _, .nil => rfl
  | _, _, .cons h t => by
    rw [List.map_cons, ← blR_list t]
    exact congrArg (· :: _) h
section
variable {P : Program} {w : World} {K : PySem.W.Frag} {mg : Str → Option Value} {base : Heap} {C : Nat → Addr} {v : V} {m i j k : Nat} {ta : TA} {bs : List Bool}
theorem mkc (cs : Cs P w K mg base C) (hm : m < 33) (hj : j < 33) (t : MkR BlR (fun H => IsErr H v (C m)) i v ta bs) : MkR BlR (fun H => IsErr H v (C m)) i v (tCons (tCB (rIsE K) (tCons (tVar i) (tCons (tC (.ref (C j))) tNil))) ta) (decide (m = j) :: bs) :=
  mkr_cons blR_mono (fun H H' e h => IsErr.ex H H' e h) (fun σ H Q hi hp q => ⟨v, hi, by
    obtain ⟨n1, i1, T1, _⟩ := cs.er m hm
    exact ⟨v, .ref (C j), C m, _, _, _, _, _, _, rfl, .own (C j), hp, T1, kit_own cs hm hj, q _ H (Ex.refl H) rfl⟩⟩) t
theorem mkb (cs : Cs P w K mg base C) (hm : m < 33) (hk : k < 5) (t : MkR BlR (fun H => IsErr H v (C m)) i v ta bs) : MkR BlR (fun H => IsErr H v (C m)) i v (tCons (tCB (rIsE K) (tCons (tVar i) (tCons (tC (.ty (bN k))) tNil))) ta) (decide (kd m = k) :: bs) :=
  mkr_cons blR_mono (fun H H' e h => IsErr.ex H H' e h) (fun σ H Q hi hp q => ⟨v, hi, by
    obtain ⟨n1, i1, T1, _⟩ := cs.er m hm
    exact ⟨v, .ty (bN k), C m, _, _, _, _, _, _, rfl, .ty (bN k), hp, T1, kit_bty cs hm hk, q _ H (Ex.refl H) rfl⟩⟩) t
end

theorem boot_e0 : bootBuiltins "ValueError" = some (.type "ValueError") := by decide +kernel
theorem boot_e1 : bootBuiltins "LookupError" = some (.type "LookupError") := by decide +kernel
theorem boot_e2 : bootBuiltins "TypeError" = some (.type "TypeError") := by decide +kernel
theorem boot_e3 : bootBuiltins "OverflowError" = some (.type "OverflowError") := by decide +kernel
theorem boot_e4 : bootBuiltins "RuntimeError" = some (.type "RuntimeError") := by decide +kernel
def spErrs (C : Nat → Addr) : Sp := fun vs H Q _ => ∃ v : V, vs = [v] ∧ ∀ l xs H', H l = none → Ex H H' → H' l = some (.lst xs) → Paired (ErrV C v H') xs (List.range 22) → Q (.ref l) H'
def spClasses (C : Nat → Addr) : Sp := fun vs H Q _ => ∃ (v : V) (m : Nat), vs = [v] ∧ m < 33 ∧ IsErr H v (C m) ∧ ∀ l H', H l = none → Ex H H' → H' l = some (.lst ((List.range 33).map fun k => .bl (decide (m = k)))) → Q (.ref l) H'
def spKinds (C : Nat → Addr) : Sp := fun vs H Q _ => ∃ (v : V) (m : Nat), vs = [v] ∧ m < 33 ∧ IsErr H v (C m) ∧ ∀ l H', H l = none → Ex H H' → H' l = some (.lst ((List.range 5).map fun k => .bl (decide (kd m = k)))) → Q (.ref l) H'
section
variable {P : Program} {w : World} {K : PySem.W.Frag} {mg : Str → Option Value} {base : Heap} {C : Nat → Addr} {f : Addr} {fd : FuncData}
theorem scWith : FnScope ["_law_a", "_law_some"] ["_law_a"] (defScope sWith) := ⟨rfl, rfl, rfl, by decide +kernel, rfl, by decide +kernel, by decide +kernel⟩
theorem ok_with_value (F : Fun K "_law_with_value" "_law_with_value" sWith f fd)  (cs : Cs P w K mg base C) : FnOk P w K mg base CX0 3 f fd ["_law_a"] (spErrs C) := by
  refine F.ok scWith (fun vs H Q E h => ?_) (fun cdv A outer s H vs Q E hr h => ?_)
  · obtain ⟨v, rfl, _⟩ := h
    rfl
  · obtain ⟨v, rfl, k⟩ := h
    refine ⟨_, pss_cons (ps_set (i := 1) scWith.nd rfl (Or.inl rfl) (pe_lst (pa_cons (pe_err (x := "DuplicateName") (f := "value") (cs.ec 0 (by decide)) hr (pv 0) rfl) (pa_cons (pe_err (x := "WrongKind") (f := "value") (cs.ec 1 (by decide)) hr (pv 0) rfl) (pa_cons (pe_err (x := "WrongCount") (f := "value") (cs.ec 2 (by decide)) hr (pv 0) rfl) (pa_cons (pe_err (x := "Endless") (f := "value") (cs.ec 3 (by decide)) hr (pv 0) rfl) (pa_cons (pe_err (x := "InvalidList") (f := "value") (cs.ec 4 (by decide)) hr (pv 0) rfl) (pa_cons (pe_err (x := "InvalidWeights") (f := "value") (cs.ec 5 (by decide)) hr (pv 0) rfl) pa_nil)))))))) (pss_cons (ps_set (i := 1) scWith.nd rfl (Or.inl rfl) (pe_op op_cat (pv 1) (pe_lst (pa_cons (pe_err (x := "InvalidNumber") (f := "value") (cs.ec 6 (by decide)) hr (pv 0) rfl) (pa_cons (pe_err (x := "InvalidName") (f := "value") (cs.ec 7 (by decide)) hr (pv 0) rfl) (pa_cons (pe_err (x := "InUse") (f := "value") (cs.ec 8 (by decide)) hr (pv 0) rfl) (pa_cons (pe_err (x := "GivenAway") (f := "value") (cs.ec 9 (by decide)) hr (pv 0) rfl) (pa_cons (pe_err (x := "NotSame") (f := "value") (cs.ec 10 (by decide)) hr (pv 0) rfl) (pa_cons (pe_err (x := "CommandError") (f := "value") (cs.ec 11 (by decide)) hr (pv 0) rfl) pa_nil))))))))) (pss_cons (ps_set (i := 1) scWith.nd rfl (Or.inl rfl) (pe_op op_cat (pv 1) (pe_lst (pa_cons (pe_err (x := "UnknownName") (f := "value") (cs.ec 12 (by decide)) hr (pv 0) rfl) (pa_cons (pe_err (x := "UnknownPoint") (f := "value") (cs.ec 13 (by decide)) hr (pv 0) rfl) (pa_cons (pe_err (x := "UnknownUnit") (f := "value") (cs.ec 14 (by decide)) hr (pv 0) rfl) (pa_cons (pe_err (x := "UnknownMoment") (f := "value") (cs.ec 15 (by decide)) hr (pv 0) rfl) (pa_cons (pe_err (x := "InvalidIndex") (f := "value") (cs.ec 16 (by decide)) hr (pv 0) rfl) (pa_cons (pe_err (x := "OutOfRange") (f := "value") (cs.ec 17 (by decide)) hr (pv 0) rfl) pa_nil))))))))) (pss_one (ps_ret (pe_op op_cat (pv 1) (pe_lst (pa_cons (pe_err (x := "NotHeld") (f := "value") (cs.ec 18 (by decide)) hr (pv 0) rfl) (pa_cons (pe_err (x := "NotFlag") (f := "value") (cs.ec 19 (by decide)) hr (pv 0) rfl) (pa_cons (pe_err (x := "TooDear") (f := "value") (cs.ec 20 (by decide)) hr (pv 0) rfl) (pa_cons (pe_err (x := "Leaks") (f := "value") (cs.ec 21 (by decide)) hr (pv 0) rfl) pa_nil)))))))))), ?_⟩
    refine s_mkr (R := ErrV C v) errV_mono (mke (j := 0) (mke (j := 1) (mke (j := 2) (mke (j := 3) (mke (j := 4) (mke (j := 5) mkr_nil)))))) rfl trivial (show 6 ≤ 1000 by decide) fun p1 x1 H1 e1 _ h1 r1 => ?_
    refine s_catr (R := ErrV C v) (l := 1) errV_mono (mke (j := 6) (mke (j := 7) (mke (j := 8) (mke (j := 9) (mke (j := 10) (mke (j := 11) mkr_nil)))))) rfl h1 r1 rfl trivial (show 6 ≤ 1000 ∧ 6 ≤ 1000 by decide) fun p2 x2 H2 e2 n2 h2 r2 => ?_
    refine s_catr (R := ErrV C v) (l := 1) errV_mono (mke (j := 12) (mke (j := 13) (mke (j := 14) (mke (j := 15) (mke (j := 16) (mke (j := 17) mkr_nil)))))) rfl h2 r2 rfl trivial (show 12 ≤ 1000 ∧ 6 ≤ 1000 by decide) fun p3 x3 H3 e3 n3 h3 r3 => ?_
    refine s_retr (R := ErrV C v) (l := 1) errV_mono (mke (j := 18) (mke (j := 19) (mke (j := 20) (mke (j := 21) mkr_nil)))) rfl h3 r3 rfl trivial (show 18 ≤ 1000 ∧ 4 ≤ 1000 by decide) fun p4 x4 H4 e4 n4 h4 r4 => ?_
    exact k p4 x4 H4 (fresh_back (e1.trans (e2.trans (e3))) n4) (e1.trans (e2.trans (e3.trans (e4)))) h4 r4
theorem scByKw : FnScope ["_law_a", "_law_some"] ["_law_a"] (defScope sByKw) := ⟨rfl, rfl, rfl, by decide +kernel, rfl, by decide +kernel, by decide +kernel⟩
theorem ok_by_keyword (F : Fun K "_law_by_keyword" "_law_by_keyword" sByKw f fd)  (cs : Cs P w K mg base C) : FnOk P w K mg base CX0 3 f fd ["_law_a"] (spErrs C) := by
  refine F.ok scByKw (fun vs H Q E h => ?_) (fun cdv A outer s H vs Q E hr h => ?_)
  · obtain ⟨v, rfl, _⟩ := h
    rfl
  · obtain ⟨v, rfl, k⟩ := h
    refine ⟨_, pss_cons (ps_set (i := 1) scByKw.nd rfl (Or.inl rfl) (pe_lst (pa_cons (pe_errK (x := "DuplicateName") (f := "value") (cs.ec 0 (by decide)) hr (pv 0) rfl) (pa_cons (pe_errK (x := "WrongKind") (f := "value") (cs.ec 1 (by decide)) hr (pv 0) rfl) (pa_cons (pe_errK (x := "WrongCount") (f := "value") (cs.ec 2 (by decide)) hr (pv 0) rfl) (pa_cons (pe_errK (x := "Endless") (f := "value") (cs.ec 3 (by decide)) hr (pv 0) rfl) (pa_cons (pe_errK (x := "InvalidList") (f := "value") (cs.ec 4 (by decide)) hr (pv 0) rfl) pa_nil))))))) (pss_cons (ps_set (i := 1) scByKw.nd rfl (Or.inl rfl) (pe_op op_cat (pv 1) (pe_lst (pa_cons (pe_errK (x := "InvalidWeights") (f := "value") (cs.ec 5 (by decide)) hr (pv 0) rfl) (pa_cons (pe_errK (x := "InvalidNumber") (f := "value") (cs.ec 6 (by decide)) hr (pv 0) rfl) (pa_cons (pe_errK (x := "InvalidName") (f := "value") (cs.ec 7 (by decide)) hr (pv 0) rfl) (pa_cons (pe_errK (x := "InUse") (f := "value") (cs.ec 8 (by decide)) hr (pv 0) rfl) pa_nil))))))) (pss_cons (ps_set (i := 1) scByKw.nd rfl (Or.inl rfl) (pe_op op_cat (pv 1) (pe_lst (pa_cons (pe_errK (x := "GivenAway") (f := "value") (cs.ec 9 (by decide)) hr (pv 0) rfl) (pa_cons (pe_errK (x := "NotSame") (f := "value") (cs.ec 10 (by decide)) hr (pv 0) rfl) (pa_cons (pe_errK (x := "CommandError") (f := "value") (cs.ec 11 (by decide)) hr (pv 0) rfl) (pa_cons (pe_errK (x := "UnknownName") (f := "value") (cs.ec 12 (by decide)) hr (pv 0) rfl) pa_nil))))))) (pss_cons (ps_set (i := 1) scByKw.nd rfl (Or.inl rfl) (pe_op op_cat (pv 1) (pe_lst (pa_cons (pe_errK (x := "UnknownPoint") (f := "value") (cs.ec 13 (by decide)) hr (pv 0) rfl) (pa_cons (pe_errK (x := "UnknownUnit") (f := "value") (cs.ec 14 (by decide)) hr (pv 0) rfl) (pa_cons (pe_errK (x := "UnknownMoment") (f := "value") (cs.ec 15 (by decide)) hr (pv 0) rfl) (pa_cons (pe_errK (x := "InvalidIndex") (f := "value") (cs.ec 16 (by decide)) hr (pv 0) rfl) pa_nil))))))) (pss_one (ps_ret (pe_op op_cat (pv 1) (pe_lst (pa_cons (pe_errK (x := "OutOfRange") (f := "value") (cs.ec 17 (by decide)) hr (pv 0) rfl) (pa_cons (pe_errK (x := "NotHeld") (f := "value") (cs.ec 18 (by decide)) hr (pv 0) rfl) (pa_cons (pe_errK (x := "NotFlag") (f := "value") (cs.ec 19 (by decide)) hr (pv 0) rfl) (pa_cons (pe_errK (x := "TooDear") (f := "value") (cs.ec 20 (by decide)) hr (pv 0) rfl) (pa_cons (pe_errK (x := "Leaks") (f := "value") (cs.ec 21 (by decide)) hr (pv 0) rfl) pa_nil)))))))))))), ?_⟩
    refine s_mkr (R := ErrV C v) errV_mono (mke (j := 0) (mke (j := 1) (mke (j := 2) (mke (j := 3) (mke (j := 4) mkr_nil))))) rfl trivial (show 5 ≤ 1000 by decide) fun p1 x1 H1 e1 _ h1 r1 => ?_
    refine s_catr (R := ErrV C v) (l := 1) errV_mono (mke (j := 5) (mke (j := 6) (mke (j := 7) (mke (j := 8) mkr_nil)))) rfl h1 r1 rfl trivial (show 5 ≤ 1000 ∧ 4 ≤ 1000 by decide) fun p2 x2 H2 e2 n2 h2 r2 => ?_
    refine s_catr (R := ErrV C v) (l := 1) errV_mono (mke (j := 9) (mke (j := 10) (mke (j := 11) (mke (j := 12) mkr_nil)))) rfl h2 r2 rfl trivial (show 9 ≤ 1000 ∧ 4 ≤ 1000 by decide) fun p3 x3 H3 e3 n3 h3 r3 => ?_
    refine s_catr (R := ErrV C v) (l := 1) errV_mono (mke (j := 13) (mke (j := 14) (mke (j := 15) (mke (j := 16) mkr_nil)))) rfl h3 r3 rfl trivial (show 13 ≤ 1000 ∧ 4 ≤ 1000 by decide) fun p4 x4 H4 e4 n4 h4 r4 => ?_
    refine s_retr (R := ErrV C v) (l := 1) errV_mono (mke (j := 17) (mke (j := 18) (mke (j := 19) (mke (j := 20) (mke (j := 21) mkr_nil))))) rfl h4 r4 rfl trivial (show 17 ≤ 1000 ∧ 5 ≤ 1000 by decide) fun p5 x5 H5 e5 n5 h5 r5 => ?_
    exact k p5 x5 H5 (fresh_back (e1.trans (e2.trans (e3.trans (e4)))) n5) (e1.trans (e2.trans (e3.trans (e4.trans (e5))))) h5 r5
theorem scClasses : FnScope ["_law_one", "_law_some"] ["_law_one"] (defScope sClasses) := ⟨rfl, rfl, rfl, by decide +kernel, rfl, by decide +kernel, by decide +kernel⟩
theorem ok_classes (F : Fun K "_law_classes" "_law_classes" sClasses f fd) (T : MgB mg) (cs : Cs P w K mg base C) : FnOk P w K mg base CX0 1 f fd ["_law_one"] (spClasses C) := by
  refine F.ok scClasses (fun vs H Q E h => ?_) (fun cdv A outer s H vs Q E hr h => ?_)
  · obtain ⟨v, m, rfl, _⟩ := h
    rfl
  · obtain ⟨v, m, rfl, hm, he, k⟩ := h
    refine ⟨_, pss_cons (ps_set (i := 1) scClasses.nd rfl (Or.inl rfl) (pe_lst (pa_cons (pe_callB call_isE (by rfl) T.isi boot_isinstance (pa_cons (pv 0) (pa_cons (pe_glob (x := "DuplicateName") (v := .ref (C 0)) rfl (cs.gx 0 (by decide)) rfl) pa_nil))) (pa_cons (pe_callB call_isE (by rfl) T.isi boot_isinstance (pa_cons (pv 0) (pa_cons (pe_glob (x := "WrongKind") (v := .ref (C 1)) rfl (cs.gx 1 (by decide)) rfl) pa_nil))) (pa_cons (pe_callB call_isE (by rfl) T.isi boot_isinstance (pa_cons (pv 0) (pa_cons (pe_glob (x := "WrongCount") (v := .ref (C 2)) rfl (cs.gx 2 (by decide)) rfl) pa_nil))) pa_nil))))) (pss_cons (ps_set (i := 1) scClasses.nd rfl (Or.inl rfl) (pe_op op_cat (pv 1) (pe_lst (pa_cons (pe_callB call_isE (by rfl) T.isi boot_isinstance (pa_cons (pv 0) (pa_cons (pe_glob (x := "Endless") (v := .ref (C 3)) rfl (cs.gx 3 (by decide)) rfl) pa_nil))) (pa_cons (pe_callB call_isE (by rfl) T.isi boot_isinstance (pa_cons (pv 0) (pa_cons (pe_glob (x := "InvalidList") (v := .ref (C 4)) rfl (cs.gx 4 (by decide)) rfl) pa_nil))) (pa_cons (pe_callB call_isE (by rfl) T.isi boot_isinstance (pa_cons (pv 0) (pa_cons (pe_glob (x := "InvalidWeights") (v := .ref (C 5)) rfl (cs.gx 5 (by decide)) rfl) pa_nil))) pa_nil)))))) (pss_cons (ps_set (i := 1) scClasses.nd rfl (Or.inl rfl) (pe_op op_cat (pv 1) (pe_lst (pa_cons (pe_callB call_isE (by rfl) T.isi boot_isinstance (pa_cons (pv 0) (pa_cons (pe_glob (x := "InvalidNumber") (v := .ref (C 6)) rfl (cs.gx 6 (by decide)) rfl) pa_nil))) (pa_cons (pe_callB call_isE (by rfl) T.isi boot_isinstance (pa_cons (pv 0) (pa_cons (pe_glob (x := "InvalidName") (v := .ref (C 7)) rfl (cs.gx 7 (by decide)) rfl) pa_nil))) (pa_cons (pe_callB call_isE (by rfl) T.isi boot_isinstance (pa_cons (pv 0) (pa_cons (pe_glob (x := "InUse") (v := .ref (C 8)) rfl (cs.gx 8 (by decide)) rfl) pa_nil))) pa_nil)))))) (pss_cons (ps_set (i := 1) scClasses.nd rfl (Or.inl rfl) (pe_op op_cat (pv 1) (pe_lst (pa_cons (pe_callB call_isE (by rfl) T.isi boot_isinstance (pa_cons (pv 0) (pa_cons (pe_glob (x := "GivenAway") (v := .ref (C 9)) rfl (cs.gx 9 (by decide)) rfl) pa_nil))) (pa_cons (pe_callB call_isE (by rfl) T.isi boot_isinstance (pa_cons (pv 0) (pa_cons (pe_glob (x := "NotSame") (v := .ref (C 10)) rfl (cs.gx 10 (by decide)) rfl) pa_nil))) (pa_cons (pe_callB call_isE (by rfl) T.isi boot_isinstance (pa_cons (pv 0) (pa_cons (pe_glob (x := "CommandError") (v := .ref (C 11)) rfl (cs.gx 11 (by decide)) rfl) pa_nil))) pa_nil)))))) (pss_cons (ps_set (i := 1) scClasses.nd rfl (Or.inl rfl) (pe_op op_cat (pv 1) (pe_lst (pa_cons (pe_callB call_isE (by rfl) T.isi boot_isinstance (pa_cons (pv 0) (pa_cons (pe_glob (x := "UnknownName") (v := .ref (C 12)) rfl (cs.gx 12 (by decide)) rfl) pa_nil))) (pa_cons (pe_callB call_isE (by rfl) T.isi boot_isinstance (pa_cons (pv 0) (pa_cons (pe_glob (x := "UnknownPoint") (v := .ref (C 13)) rfl (cs.gx 13 (by decide)) rfl) pa_nil))) (pa_cons (pe_callB call_isE (by rfl) T.isi boot_isinstance (pa_cons (pv 0) (pa_cons (pe_glob (x := "UnknownUnit") (v := .ref (C 14)) rfl (cs.gx 14 (by decide)) rfl) pa_nil))) pa_nil)))))) (pss_cons (ps_set (i := 1) scClasses.nd rfl (Or.inl rfl) (pe_op op_cat (pv 1) (pe_lst (pa_cons (pe_callB call_isE (by rfl) T.isi boot_isinstance (pa_cons (pv 0) (pa_cons (pe_glob (x := "UnknownMoment") (v := .ref (C 15)) rfl (cs.gx 15 (by decide)) rfl) pa_nil))) (pa_cons (pe_callB call_isE (by rfl) T.isi boot_isinstance (pa_cons (pv 0) (pa_cons (pe_glob (x := "InvalidIndex") (v := .ref (C 16)) rfl (cs.gx 16 (by decide)) rfl) pa_nil))) (pa_cons (pe_callB call_isE (by rfl) T.isi boot_isinstance (pa_cons (pv 0) (pa_cons (pe_glob (x := "OutOfRange") (v := .ref (C 17)) rfl (cs.gx 17 (by decide)) rfl) pa_nil))) pa_nil)))))) (pss_cons (ps_set (i := 1) scClasses.nd rfl (Or.inl rfl) (pe_op op_cat (pv 1) (pe_lst (pa_cons (pe_callB call_isE (by rfl) T.isi boot_isinstance (pa_cons (pv 0) (pa_cons (pe_glob (x := "NotHeld") (v := .ref (C 18)) rfl (cs.gx 18 (by decide)) rfl) pa_nil))) (pa_cons (pe_callB call_isE (by rfl) T.isi boot_isinstance (pa_cons (pv 0) (pa_cons (pe_glob (x := "NotFlag") (v := .ref (C 19)) rfl (cs.gx 19 (by decide)) rfl) pa_nil))) (pa_cons (pe_callB call_isE (by rfl) T.isi boot_isinstance (pa_cons (pv 0) (pa_cons (pe_glob (x := "TooDear") (v := .ref (C 20)) rfl (cs.gx 20 (by decide)) rfl) pa_nil))) pa_nil)))))) (pss_cons (ps_set (i := 1) scClasses.nd rfl (Or.inl rfl) (pe_op op_cat (pv 1) (pe_lst (pa_cons (pe_callB call_isE (by rfl) T.isi boot_isinstance (pa_cons (pv 0) (pa_cons (pe_glob (x := "Leaks") (v := .ref (C 21)) rfl (cs.gx 21 (by decide)) rfl) pa_nil))) pa_nil)))) (pss_cons (ps_set (i := 1) scClasses.nd rfl (Or.inl rfl) (pe_op op_cat (pv 1) (pe_lst (pa_cons (pe_callB call_isE (by rfl) T.isi boot_isinstance (pa_cons (pv 0) (pa_cons (pe_glob (x := "TooMany") (v := .ref (C 22)) rfl (cs.gx 22 (by decide)) rfl) pa_nil))) (pa_cons (pe_callB call_isE (by rfl) T.isi boot_isinstance (pa_cons (pv 0) (pa_cons (pe_glob (x := "TooLong") (v := .ref (C 23)) rfl (cs.gx 23 (by decide)) rfl) pa_nil))) (pa_cons (pe_callB call_isE (by rfl) T.isi boot_isinstance (pa_cons (pv 0) (pa_cons (pe_glob (x := "InvalidBundle") (v := .ref (C 24)) rfl (cs.gx 24 (by decide)) rfl) pa_nil))) pa_nil)))))) (pss_cons (ps_set (i := 1) scClasses.nd rfl (Or.inl rfl) (pe_op op_cat (pv 1) (pe_lst (pa_cons (pe_callB call_isE (by rfl) T.isi boot_isinstance (pa_cons (pv 0) (pa_cons (pe_glob (x := "InvalidWorld") (v := .ref (C 25)) rfl (cs.gx 25 (by decide)) rfl) pa_nil))) (pa_cons (pe_callB call_isE (by rfl) T.isi boot_isinstance (pa_cons (pv 0) (pa_cons (pe_glob (x := "InvalidProgram") (v := .ref (C 26)) rfl (cs.gx 26 (by decide)) rfl) pa_nil))) (pa_cons (pe_callB call_isE (by rfl) T.isi boot_isinstance (pa_cons (pv 0) (pa_cons (pe_glob (x := "Unreadable") (v := .ref (C 27)) rfl (cs.gx 27 (by decide)) rfl) pa_nil))) pa_nil)))))) (pss_cons (ps_set (i := 1) scClasses.nd rfl (Or.inl rfl) (pe_op op_cat (pv 1) (pe_lst (pa_cons (pe_callB call_isE (by rfl) T.isi boot_isinstance (pa_cons (pv 0) (pa_cons (pe_glob (x := "OtherProgram") (v := .ref (C 28)) rfl (cs.gx 28 (by decide)) rfl) pa_nil))) (pa_cons (pe_callB call_isE (by rfl) T.isi boot_isinstance (pa_cons (pv 0) (pa_cons (pe_glob (x := "NotJoined") (v := .ref (C 29)) rfl (cs.gx 29 (by decide)) rfl) pa_nil))) (pa_cons (pe_callB call_isE (by rfl) T.isi boot_isinstance (pa_cons (pv 0) (pa_cons (pe_glob (x := "NothingToUndo") (v := .ref (C 30)) rfl (cs.gx 30 (by decide)) rfl) pa_nil))) pa_nil)))))) (pss_one (ps_ret (pe_op op_cat (pv 1) (pe_lst (pa_cons (pe_callB call_isE (by rfl) T.isi boot_isinstance (pa_cons (pv 0) (pa_cons (pe_glob (x := "NothingToRedo") (v := .ref (C 31)) rfl (cs.gx 31 (by decide)) rfl) pa_nil))) (pa_cons (pe_callB call_isE (by rfl) T.isi boot_isinstance (pa_cons (pv 0) (pa_cons (pe_glob (x := "InTrial") (v := .ref (C 32)) rfl (cs.gx 32 (by decide)) rfl) pa_nil))) pa_nil)))))))))))))))), ?_⟩
    refine s_mkr (R := BlR) blR_mono (mkc (j := 0) cs hm (by decide) (mkc (j := 1) cs hm (by decide) (mkc (j := 2) cs hm (by decide) mkr_nil))) rfl he (show 3 ≤ 1000 by decide) fun p1 x1 H1 e1 _ h1 r1 => ?_
    refine s_catr (R := BlR) (l := 1) blR_mono (mkc (j := 3) cs hm (by decide) (mkc (j := 4) cs hm (by decide) (mkc (j := 5) cs hm (by decide) mkr_nil))) rfl h1 r1 rfl (IsErr.ex _ _ (e1) he) (show 3 ≤ 1000 ∧ 3 ≤ 1000 by decide) fun p2 x2 H2 e2 n2 h2 r2 => ?_
    refine s_catr (R := BlR) (l := 1) blR_mono (mkc (j := 6) cs hm (by decide) (mkc (j := 7) cs hm (by decide) (mkc (j := 8) cs hm (by decide) mkr_nil))) rfl h2 r2 rfl (IsErr.ex _ _ (e1.trans (e2)) he) (show 6 ≤ 1000 ∧ 3 ≤ 1000 by decide) fun p3 x3 H3 e3 n3 h3 r3 => ?_
    refine s_catr (R := BlR) (l := 1) blR_mono (mkc (j := 9) cs hm (by decide) (mkc (j := 10) cs hm (by decide) (mkc (j := 11) cs hm (by decide) mkr_nil))) rfl h3 r3 rfl (IsErr.ex _ _ (e1.trans (e2.trans (e3))) he) (show 9 ≤ 1000 ∧ 3 ≤ 1000 by decide) fun p4 x4 H4 e4 n4 h4 r4 => ?_
    refine s_catr (R := BlR) (l := 1) blR_mono (mkc (j := 12) cs hm (by decide) (mkc (j := 13) cs hm (by decide) (mkc (j := 14) cs hm (by decide) mkr_nil))) rfl h4 r4 rfl (IsErr.ex _ _ (e1.trans (e2.trans (e3.trans (e4)))) he) (show 12 ≤ 1000 ∧ 3 ≤ 1000 by decide) fun p5 x5 H5 e5 n5 h5 r5 => ?_
    refine s_catr (R := BlR) (l := 1) blR_mono (mkc (j := 15) cs hm (by decide) (mkc (j := 16) cs hm (by decide) (mkc (j := 17) cs hm (by decide) mkr_nil))) rfl h5 r5 rfl (IsErr.ex _ _ (e1.trans (e2.trans (e3.trans (e4.trans (e5))))) he) (show 15 ≤ 1000 ∧ 3 ≤ 1000 by decide) fun p6 x6 H6 e6 n6 h6 r6 => ?_
    refine s_catr (R := BlR) (l := 1) blR_mono (mkc (j := 18) cs hm (by decide) (mkc (j := 19) cs hm (by decide) (mkc (j := 20) cs hm (by decide) mkr_nil))) rfl h6 r6 rfl (IsErr.ex _ _ (e1.trans (e2.trans (e3.trans (e4.trans (e5.trans (e6)))))) he) (show 18 ≤ 1000 ∧ 3 ≤ 1000 by decide) fun p7 x7 H7 e7 n7 h7 r7 => ?_
    refine s_catr (R := BlR) (l := 1) blR_mono (mkc (j := 21) cs hm (by decide) mkr_nil) rfl h7 r7 rfl (IsErr.ex _ _ (e1.trans (e2.trans (e3.trans (e4.trans (e5.trans (e6.trans (e7))))))) he) (show 21 ≤ 1000 ∧ 1 ≤ 1000 by decide) fun p8 x8 H8 e8 n8 h8 r8 => ?_
    refine s_catr (R := BlR) (l := 1) blR_mono (mkc (j := 22) cs hm (by decide) (mkc (j := 23) cs hm (by decide) (mkc (j := 24) cs hm (by decide) mkr_nil))) rfl h8 r8 rfl (IsErr.ex _ _ (e1.trans (e2.trans (e3.trans (e4.trans (e5.trans (e6.trans (e7.trans (e8)))))))) he) (show 22 ≤ 1000 ∧ 3 ≤ 1000 by decide) fun p9 x9 H9 e9 n9 h9 r9 => ?_
    refine s_catr (R := BlR) (l := 1) blR_mono (mkc (j := 25) cs hm (by decide) (mkc (j := 26) cs hm (by decide) (mkc (j := 27) cs hm (by decide) mkr_nil))) rfl h9 r9 rfl (IsErr.ex _ _ (e1.trans (e2.trans (e3.trans (e4.trans (e5.trans (e6.trans (e7.trans (e8.trans (e9))))))))) he) (show 25 ≤ 1000 ∧ 3 ≤ 1000 by decide) fun p10 x10 H10 e10 n10 h10 r10 => ?_
    refine s_catr (R := BlR) (l := 1) blR_mono (mkc (j := 28) cs hm (by decide) (mkc (j := 29) cs hm (by decide) (mkc (j := 30) cs hm (by decide) mkr_nil))) rfl h10 r10 rfl (IsErr.ex _ _ (e1.trans (e2.trans (e3.trans (e4.trans (e5.trans (e6.trans (e7.trans (e8.trans (e9.trans (e10)))))))))) he) (show 28 ≤ 1000 ∧ 3 ≤ 1000 by decide) fun p11 x11 H11 e11 n11 h11 r11 => ?_
    refine s_retr (R := BlR) (l := 1) blR_mono (mkc (j := 31) cs hm (by decide) (mkc (j := 32) cs hm (by decide) mkr_nil)) rfl h11 r11 rfl (IsErr.ex _ _ (e1.trans (e2.trans (e3.trans (e4.trans (e5.trans (e6.trans (e7.trans (e8.trans (e9.trans (e10.trans (e11))))))))))) he) (show 31 ≤ 1000 ∧ 2 ≤ 1000 by decide) fun p12 x12 H12 e12 n12 h12 r12 => ?_
    exact k p12 H12 (fresh_back (e1.trans (e2.trans (e3.trans (e4.trans (e5.trans (e6.trans (e7.trans (e8.trans (e9.trans (e10.trans (e11))))))))))) n12) (e1.trans (e2.trans (e3.trans (e4.trans (e5.trans (e6.trans (e7.trans (e8.trans (e9.trans (e10.trans (e11.trans (e12)))))))))))) (by rw [h12, blR_list r12]; rfl)
theorem scKinds : FnScope ["_law_one", "_law_some"] ["_law_one"] (defScope sKinds) := ⟨rfl, rfl, rfl, by decide +kernel, rfl, by decide +kernel, by decide +kernel⟩
theorem ok_kinds (F : Fun K "_law_kinds" "_law_kinds" sKinds f fd) (T : MgB mg) (cs : Cs P w K mg base C) : FnOk P w K mg base CX0 1 f fd ["_law_one"] (spKinds C) := by
  refine F.ok scKinds (fun vs H Q E h => ?_) (fun cdv A outer s H vs Q E hr h => ?_)
  · obtain ⟨v, m, rfl, _⟩ := h
    rfl
  · obtain ⟨v, m, rfl, hm, he, k⟩ := h
    refine ⟨_, pss_cons (ps_set (i := 1) scKinds.nd rfl (Or.inl rfl) (pe_lst (pa_cons (pe_callB call_isE (by rfl) T.isi boot_isinstance (pa_cons (pv 0) (pa_cons (pe_bltn (v := .ty (bN 0)) rfl T.e0 boot_e0 rfl) pa_nil))) (pa_cons (pe_callB call_isE (by rfl) T.isi boot_isinstance (pa_cons (pv 0) (pa_cons (pe_bltn (v := .ty (bN 1)) rfl T.e1 boot_e1 rfl) pa_nil))) (pa_cons (pe_callB call_isE (by rfl) T.isi boot_isinstance (pa_cons (pv 0) (pa_cons (pe_bltn (v := .ty (bN 2)) rfl T.e2 boot_e2 rfl) pa_nil))) pa_nil))))) (pss_one (ps_ret (pe_op op_cat (pv 1) (pe_lst (pa_cons (pe_callB call_isE (by rfl) T.isi boot_isinstance (pa_cons (pv 0) (pa_cons (pe_bltn (v := .ty (bN 3)) rfl T.e3 boot_e3 rfl) pa_nil))) (pa_cons (pe_callB call_isE (by rfl) T.isi boot_isinstance (pa_cons (pv 0) (pa_cons (pe_bltn (v := .ty (bN 4)) rfl T.e4 boot_e4 rfl) pa_nil))) pa_nil)))))), ?_⟩
    refine s_mkr (R := BlR) blR_mono (mkb (k := 0) cs hm (by decide) (mkb (k := 1) cs hm (by decide) (mkb (k := 2) cs hm (by decide) mkr_nil))) rfl he (show 3 ≤ 1000 by decide) fun p1 x1 H1 e1 _ h1 r1 => ?_
    refine s_retr (R := BlR) (l := 1) blR_mono (mkb (k := 3) cs hm (by decide) (mkb (k := 4) cs hm (by decide) mkr_nil)) rfl h1 r1 rfl (IsErr.ex _ _ (e1) he) (show 3 ≤ 1000 ∧ 2 ≤ 1000 by decide) fun p2 x2 H2 e2 n2 h2 r2 => ?_
    exact k p2 H2 (fresh_back (e1) n2) (e1.trans (e2)) (by rw [h2, blR_list r2]; rfl)
end
end L2.K0

namespace L2.K0
open PySem PySem.Spec PyProof.Rows Evl

section
variable {K : PySem.W.Frag} {σ : L2.St} {H H' : Hp} {ta tb te : TE} {x y z v : V} {D : Ends} {xs ys : List V} {a b : Addr}
theorem el_is (h : EvL te σ H xs) (e : xs = ys) : EvL te σ H ys := by
  rw [← e]
  exact h
theorem el_catLL (ha : EvL ta σ H xs) (hb : EvL tb σ H ys) (hz : xs.length + ys.length ≤ 100000) : EvL (tOp L2.rCat ta tb) σ H (xs ++ ys) := fun H1 e Q k =>
  ha H1 e _ fun p H2 _ e2 hp => hb H2 (e.trans e2) _ fun q H3 _ e3 hq => ⟨p, q, xs, ys, rfl, rfl, e3 p _ hp, hq, sz_of hz, fun l hl => k l _ (fresh_back (e2.trans e3) hl) (e2.trans (e3.trans (Ex.new hl))) upd_same⟩
theorem el_catVL (ha : Ev ta σ H (.ref a)) (hx : H a = some (.lst xs)) (hb : EvL tb σ H ys) (hz : xs.length + ys.length ≤ 100000) : EvL (tOp L2.rCat ta tb) σ H (xs ++ ys) := fun H1 e Q k =>
  ha H1 e _ fun H2 e2 => hb H2 (e.trans e2) _ fun q H3 _ e3 hq => ⟨a, q, xs, ys, rfl, rfl, (e.trans (e2.trans e3)) a _ hx, hq, sz_of hz, fun l hl => k l _ (fresh_back (e2.trans e3) hl) (e2.trans (e3.trans (Ex.new hl))) upd_same⟩
theorem el_catLV (ha : EvL ta σ H xs) (hb : Ev tb σ H (.ref b)) (hy : H b = some (.lst ys)) (hz : xs.length + ys.length ≤ 100000) : EvL (tOp L2.rCat ta tb) σ H (xs ++ ys) := fun H1 e Q k =>
  ha H1 e _ fun p H2 _ e2 hp => hb H2 (e.trans e2) _ fun H3 e3 => ⟨p, b, xs, ys, rfl, rfl, e3 p _ hp, (e.trans (e2.trans e3)) b _ hy, sz_of hz, fun l hl => k l _ (fresh_back (e2.trans e3) hl) (e2.trans (e3.trans (Ex.new hl))) upd_same⟩
theorem el_catVV (ha : Ev ta σ H (.ref a)) (hx : H a = some (.lst xs)) (hb : Ev tb σ H (.ref b)) (hy : H b = some (.lst ys)) (hz : xs.length + ys.length ≤ 100000) : EvL (tOp L2.rCat ta tb) σ H (xs ++ ys) := fun H1 e Q k =>
  ha H1 e _ fun H2 e2 => hb H2 (e.trans e2) _ fun H3 e3 => ⟨a, b, xs, ys, rfl, rfl, (e.trans (e2.trans e3)) a _ hx, (e.trans (e2.trans e3)) b _ hy, sz_of hz, fun l hl => k l _ (fresh_back (e2.trans e3) hl) (e2.trans (e3.trans (Ex.new hl))) upd_same⟩
theorem el_repI {n : Int} (ha : EvL ta σ H xs) (hb : Ev tb σ H (.int n)) (hn : 0 ≤ n ∧ n ≤ 1000) (hz : xs.length * n.toNat ≤ 100000) : EvL (tOp L2.rRep ta tb) σ H (List.replicate n.toNat xs).flatten := fun H1 e Q k =>
  ha H1 e _ fun p H2 _ e2 hp => hb H2 (e.trans e2) _ fun H3 e3 => ⟨p, n, xs, rfl, rfl, e3 p _ hp, by omega, by omega, sz_of hz, fun l hl => k l _ (fresh_back (e2.trans e3) hl) (e2.trans (e3.trans (Ex.new hl))) upd_same⟩
theorem ev_rep {d : PyData} (h : Ev te σ H v) (ho : Ox K H v d) (h1 : d.showable = true ∧ d.depth ≤ 20 ∧ d.shown.length ≤ sizeLine) : Ev (tCB (rRep K) (tCons te tNil)) σ H (.str d.shown) := fun H1 e Q q =>
  h H1 e _ fun H2 e2 => ⟨v, d, rfl, Ox.same (e.trans e2) ho, h1.1, h1.2.1, h1.2.2, q H2 e2⟩
theorem ev_repL {d : PyData} {n : Nat} (h : EvL te σ H (List.replicate (n + 1) v)) (ho : Ox K H v d) (h1 : d.showable = true ∧ d.depth ≤ 20) (hz : (listText (List.replicate (n + 1) d.shown)).length ≤ sizeLine) :
    Ev (tCB (rRepL K) (tCons te tNil)) σ H (.str (listText (List.replicate (n + 1) d.shown))) := fun H1 e Q q =>
  h H1 e _ fun p H2 _ e2 hp => ⟨p, n, v, d, rfl, hp, Ox.same (e.trans e2) ho, h1.1, h1.2, hz, q H2 e2⟩
theorem rv_neS {s : Str} : RV rNe (.str s) (.str s) H (.bl false) := fun H1 _ _ q => ⟨rfl, by
  have e : decide ((V.str s) = .str s) = true := decide_eq_true rfl
  show _
  rw [e]
  exact q H1 (Ex.refl H1)⟩
theorem eqv_bools : ∀ bs : List Bool, PyData.eqvAll (bs.map PyData.bool) (bs.map PyData.bool) = true
  | [] => by simp [PyData.eqvAll]
  | b :: bs => by
    have := eqv_bools bs
    simp only [List.map_cons, PyData.eqvAll, this, Bool.and_true]
    cases b <;> simp [PyData.eqv]
theorem lay_bools : ∀ bs : List Bool, PyData.canLayAll0 (bs.map PyData.bool) = true
  | [] => by simp [PyData.canLayAll0]
  | b :: bs => by
    have := lay_bools bs
    simp [PyData.canLayAll0, PyData.canLay0, this]
theorem deep_bools : ∀ bs : List Bool, PyData.depthAll (bs.map PyData.bool) ≤ 1
  | [] => by simp [PyData.depthAll]
  | b :: bs => by
    have := deep_bools bs
    simp only [List.map_cons, PyData.depthAll, PyData.depth]
    omega
theorem shaped_bools (bs : List Bool) : SeqAt.shaped (.list (bs.map PyData.bool)) = true := by
  have h := deep_bools bs
  simp only [SeqAt.shaped, PyData.canLay0, lay_bools, PyData.depth, Bool.true_and]
  exact decide_eq_true (by omega)
theorem dp_bools : ∀ bs : List Bool, DpAll K H (bs.map V.bl) (bs.map PyData.bool)
  | [] => .nil
  | b :: bs => .cons (.bl b) (dp_bools bs)
theorem rv_neB {bs : List Bool} (ha : H a = some (.lst (bs.map V.bl))) (hb : H b = some (.lst (bs.map V.bl))) : RV (rNeD K) (.ref a) (.ref b) H (.bl false) := fun H1 e _ q =>
  ⟨.list (bs.map PyData.bool), .list (bs.map PyData.bool), .lst (sq_of (e _ _ ha)) (dp_bools bs), .lst (sq_of (e _ _ hb)) (dp_bools bs), shaped_bools bs, shaped_bools bs, by
    have z : PyData.eqv (.list (bs.map PyData.bool)) (.list (bs.map PyData.bool)) = true := by simp only [PyData.eqv, eqv_bools]
    rw [z]
    exact q H1 (Ex.refl H1)⟩
theorem rv_neE (ha : H a = some (.lst [])) (hb : H b = some (.lst [])) : RV (rNeD K) (.ref a) (.ref b) H (.bl false) := rv_neB (bs := []) ha hb
theorem given_all {n : Nat} {w : Nat → V} : given n (fun _ => true) w = (List.range n).map w := by
  unfold given
  rw [List.filter_eq_self.mpr (fun _ _ => rfl)]
theorem given_rep {n : Nat} : given n (fun _ => true) (fun _ => v) = List.replicate n v := by
  rw [given_all, List.map_const', List.length_range]
theorem given_none {n : Nat} {w : Nat → V} : given n (fun _ => false) w = [] := by
  unfold given
  rw [List.filter_eq_nil_iff.mpr (by simp)]
  rfl
/-- i == j over numbers that a range gives -/
theorem rv_eqI {i j : Nat} : RV rEq (.int (i : Int)) (.int (j : Int)) H (.bl (decide (i = j))) := fun H1 _ _ q => ⟨rfl, by
  have e : decide ((V.int (i : Int)) = .int (j : Int)) = decide (i = j) := decide_eq_decide.mpr ⟨fun z => by cases z; rfl, fun z => by rw [z]⟩
  rw [e]
  exact q H1 (Ex.refl H1)⟩
end

section
variable {α : Type} {R : V → α → Prop}
theorem prd_len {xs : List V} {as : List α} (h : Paired R xs as) : xs.length = as.length := h.length
theorem prd_at : ∀ {xs : List V} {as : List α} {i : Nat} {x : V} {a : α}, Paired R xs as → xs[i]? = some x → as[i]? = some a → R x a
  | _, _, i, _, _, .nil, q, _ => by simp at q
  | _, _, 0, _, _, .cons h _, q, q2 => by
    simp at q q2
    subst q q2
    exact h
  | _, _, i + 1, _, _, .cons _ t, q, q2 => prd_at (i := i) t (by simpa using q) (by simpa using q2)
theorem prd_get {xs : List V} {as : List α} {i : Nat} {a : α} (h : Paired R xs as) (q : as[i]? = some a) : ∃ x, xs[i]? = some x ∧ R x a := by
  have hi : i < xs.length := by
    rw [h.length]
    exact (List.getElem?_eq_some_iff.mp q).1
  exact ⟨xs[i], List.getElem?_eq_getElem hi, prd_at h (List.getElem?_eq_getElem hi) q⟩
theorem prd_mem {xs : List V} {as : List α} {i : Nat} {x : V} (h : Paired R xs as) (q : xs[i]? = some x) : ∃ a, as[i]? = some a ∧ R x a := by
  have hi : i < as.length := by
    rw [← h.length]
    exact (List.getElem?_eq_some_iff.mp q).1
  exact ⟨as[i], List.getElem?_eq_getElem hi, prd_at h q (List.getElem?_eq_getElem hi)⟩
theorem prd2 {xs : List V} {a b : α} (h : Paired R xs [a, b]) : ∃ x y, xs = [x, y] ∧ R x a ∧ R y b := by
  cases h with | cons h1 t => cases t with | cons h2 t => cases t with | nil => exact ⟨_, _, rfl, h1, h2⟩
theorem prd4 {xs : List V} {a b c d : α} (h : Paired R xs [a, b, c, d]) : ∃ x y z w, xs = [x, y, z, w] ∧ R x a ∧ R y b ∧ R z c ∧ R w d := by
  cases h with | cons h1 t => cases t with | cons h2 t => cases t with | cons h3 t => cases t with | cons h4 t => cases t with | nil => exact ⟨_, _, _, _, rfl, h1, h2, h3, h4⟩
end

section
variable {P : Program} {w : World} {K : PySem.W.Frag} {mg : Str → Option Value} {base : Heap} {C : Nat → Addr} {σ : L2.St} {H H' : Hp} {te : TE} {x v : V} {i j : Nat} {ta : TA} {js : List Nat} {D : Ends} {tz : TS}
theorem ev_erF (cs : Cs P w K mg base C) {f : Str} (hj : j < 28) (hf : f = flS j) (h : Ev te σ H x) (hx : ErrV C v H x j) : Ev (tErF P w K mg base f te) σ H v := fun H1 e Q q =>
  h H1 e _ fun H2 e2 => by
    obtain ⟨a, d, h0, h1, h2⟩ := hx
    subst hf
    exact ⟨a, d, C j, nmS j, v, h0, cs.ec j hj, (e.trans e2) _ _ h1, (e.trans e2) _ _ h2, q H2 e2⟩
theorem mk0 {σi : Nat} {u : V} (t : MkR (fun H x j => IsErr H x (C j)) PreT σi u ta js) : MkR (fun H x j => IsErr H x (C j)) PreT σi u (tCons (fun _ H Q => ∀ a, H a = none → Q (.ref a) (upd H a (exo a (C j) none))) ta) (j :: js) :=
  mkr_cons (fun H H' x j e h => IsErr.ex H H' e h) (fun _ _ _ _ => trivial) (fun σ H Q hi _ q => fun a na => q _ _ (Ex.new na) ⟨a, none, rfl, upd_same, fun dx z => by cases z⟩) t
theorem q_mkr {α : Type} {R : Hp → V → α → Prop} {Pre : Hp → Prop} {as : List α} {l : Nat} (mono : ∀ H H' x a, Ex H H' → R H x a → R H' x a) (h : MkR R Pre i v ta as) (hi : σ[i]? = some (some v)) (hp : Pre H) (hz : as.length ≤ 1000)
    (q : ∀ p xs H1, Ex H H1 → H p = none → H1 p = some (.lst xs) → Paired (R H1) xs as → tz D (σ.set l (some (.ref p))) H1) : tSeq (tAsg (tLst ta) (gName l)) tz D σ H := s_mkr (D := { D with nx := tz D }) mono h hi hp hz q
theorem spL_classes {m : Nat} (hm : m < 33) (h : IsErr H x (C m)) : SpL (spClasses C) ([x] ++ []) H (((List.range 33).map fun k => decide (m = k)).map V.bl) := fun H1 e Q q E =>
  ⟨x, m, rfl, hm, IsErr.ex _ _ e h, fun l H' n e' h' => q l H' n e' (by rw [h', List.map_map]; rfl)⟩
theorem spL_kinds {m : Nat} (hm : m < 33) (h : IsErr H x (C m)) : SpL (spKinds C) ([x] ++ []) H (((List.range 5).map fun k => decide (kd m = k)).map V.bl) := fun H1 e Q q E =>
  ⟨x, m, rfl, hm, IsErr.ex _ _ e h, fun l H' n e' h' => q l H' n e' (by rw [h', List.map_map]; rfl)⟩
theorem prd_is {H : Hp} {v : V} : ∀ {xs : List V} {js : List Nat}, Paired (ErrV C v H) xs js → Paired (fun x j => IsErr H x (C j)) xs js
  | _, _, .nil => .nil
  | _, _, .cons h t => .cons h.is (prd_is t)
end
theorem fl_value : ∀ k, k < 22 → ("value" : Str) = flS k := by decide
theorem fl_limit : ∀ k, k ∈ [22, 23, 22, 23] → k < 28 ∧ ("limit" : Str) = flS k := by decide
theorem fl_index : ∀ k, k ∈ [24, 25, 24, 25] → k < 28 ∧ ("index" : Str) = flS k := by decide
theorem fl_place : ∀ k, k ∈ [26, 26] → k < 28 ∧ ("place" : Str) = flS k := by decide
theorem fl_line : ∀ k, k ∈ [27, 27] → k < 28 ∧ ("line" : Str) = flS k := by decide
section
variable {P : Program} {w : World} {K : PySem.W.Frag} {mg : Str → Option Value} {base : Heap} {C : Nat → Addr} {σ : L2.St} {H : Hp} {f : Str} {v : V} {xs : List V} {js : List Nat} {l : Nat} {p : Addr} {i : Nat} {vs : List Nat}
/-- [x.f for x in errors that hold v] -/
theorem el_fs (cs : Cs P w K mg base C) (hf : ∀ k, k ∈ js → k < 28 ∧ f = flS k) (hl : σ[l]? = some (some (.ref p))) (hp : H p = some (.lst xs)) (hx : Paired (ErrV C v H) xs js) (hz : xs.length ≤ 40000)
    (hw : ∀ x, wipe ((wipe σ vs).set i (some x)) vs = wipe σ vs) (hi : ∀ x, ((wipe σ vs).set i (some x))[i]? = some (some x)) :
    EvL (tLc (iList K (tVar l)) (gName i) tYes (tErF P w K mg base f (tVar i)) vs) σ H (List.replicate xs.length v) :=
  el_is (el_lcL (fun _ => true) (fun _ => v) (ev_var hl) (sq_of hp) hz hw (fun j x F eF hj => fun F1 _ Q q => q F1 (Ex.refl F1)) (fun j x F eF hj _ => by
    obtain ⟨k, hk, E⟩ := prd_mem hx hj
    obtain ⟨k1, k2⟩ := hf k (List.mem_of_getElem? hk)
    exact ev_erF cs k1 k2 (ev_var (hi x)) (errV_mono _ _ _ _ eF E))) given_rep
end
section
variable {α : Type} {R : V → α → Prop}
theorem prd_take : ∀ (n : Nat) {xs : List V} {as : List α}, Paired R xs as → Paired R (xs.take n) (as.take n)
  | 0, _, _, _ => by
    rw [List.take_zero, List.take_zero]
    exact .nil
  | n + 1, _, _, .nil => .nil
  | n + 1, _, _, .cons h t => .cons h (prd_take n t)
theorem prd_drop : ∀ (n : Nat) {xs : List V} {as : List α}, Paired R xs as → Paired R (xs.drop n) (as.drop n)
  | 0, _, _, h => h
  | n + 1, _, _, .nil => .nil
  | n + 1, _, _, .cons h t => prd_drop n t
theorem el_bools {σ : L2.St} {H : Hp} {te : TE} {f : Nat → Bool} {n : Nat} (h : EvL te σ H (given n (fun _ => true) fun k => .bl (f k))) : EvL te σ H (((List.range n).map f).map V.bl) :=
  el_is h (by
    rw [given_all, List.map_map]
    rfl)
end
def OddOk (d : PyData) : Prop := d.showable = true ∧ d.depth ≤ 20 ∧ d.shown.length ≤ sizeLine ∧ (listText (List.replicate 12 d.shown)).length ≤ sizeLine
instance (d : PyData) : Decidable (OddOk d) := by unfold OddOk; infer_instance
theorem odds_ok : ∀ d ∈ odds, OddOk d := by decide +kernel
end L2.K0

namespace L2.K0
open PySem PySem.Spec PyProof.Rows Evl

def Nlaw : List Str := ["_law_script", "_law_pen_here", "_law_kinds_here", "_law_turn", "_law_a", "_law_some", "_law_others", "_law_limits", "_law_indexes", "_law_places", "_law_lines", "_law_found", "_law_bare", "_law_every", "_law_again", "_law_at", "_law_due", "_law_one", "_law_k"]
theorem scLaw : FnScope Nlaw ["_law_script"] (defScope sLaw) := ⟨rfl, rfl, rfl, by decide +kernel, rfl, by decide +kernel, by decide +kernel⟩

section
variable {P : Program} {w : World} {K : PySem.W.Frag} {mg : Str → Option Value} {base : Heap} {C : Nat → Addr} {fa fPen fOdd fWi fBy fCl fKi : Addr} {dPen dOdd dWi dBy dCl dKi : FuncData}
theorem law_body (cs : Cs P w K mg base C) (T : MgB mg)
    (GPen : FnOk P w K mg base CX0 1 fPen dPen ["_law_script"] (spPen K)) (kPen : PySem.W.keepIn K (.ref fPen) = true) (bPen : Binds K dPen ["_law_script"] []) (gPen : mg "_law_pen" = some (.ref fPen))
    (GOdd : FnOk P w K mg base CX0 3 fOdd dOdd ["_law_pen_here"] (spOdd K)) (kOdd : PySem.W.keepIn K (.ref fOdd) = true) (bOdd : Binds K dOdd ["_law_pen_here"] []) (gOdd : mg "_law_odd" = some (.ref fOdd))
    (GWi : FnOk P w K mg base CX0 3 fWi dWi ["_law_a"] (spErrs C)) (kWi : PySem.W.keepIn K (.ref fWi) = true) (bWi : Binds K dWi ["_law_a"] []) (gWi : mg "_law_with_value" = some (.ref fWi))
    (GBy : FnOk P w K mg base CX0 3 fBy dBy ["_law_a"] (spErrs C)) (kBy : PySem.W.keepIn K (.ref fBy) = true) (bBy : Binds K dBy ["_law_a"] []) (gBy : mg "_law_by_keyword" = some (.ref fBy))
    (GCl : FnOk P w K mg base CX0 1 fCl dCl ["_law_one"] (spClasses C)) (kCl : PySem.W.keepIn K (.ref fCl) = true) (bCl : Binds K dCl ["_law_one"] []) (gCl : mg "_law_classes" = some (.ref fCl))
    (GKi : FnOk P w K mg base CX0 1 fKi dKi ["_law_one"] (spKinds C)) (kKi : PySem.W.keepIn K (.ref fKi) = true) (bKi : Binds K dKi ["_law_one"] []) (gKi : mg "_law_kinds" = some (.ref fKi))
    {a : Addr} {ns : List Int} {s : Shared} {H : Hp} {cdv : Value} {Q : VK} (hr : Room 6 (callerA.deeper (envOfC "law" (defScope sLaw) s.heap.objs.size fa cdv))) (hlen : ns.length ≤ 63) (hS : SqL K H a (ns.map V.int)) (hQ : ∀ H', Q (.bl true) H') :
    ∃ t, PSs (cxOf CX0 P w K mg base Nlaw "law" (defScope sLaw) fa cdv callerA [] s H E0).nox (defBody sLaw) t ∧ t { nx := fun _ H' => Q .non H', rt := Q } (start Nlaw [.ref a]) H := by
  have hu64 := hr.units
  have hr2 : Room 2 (callerA.deeper (envOfC "law" (defScope sLaw) s.heap.objs.size fa cdv)) := hr.mono (by decide)
  obtain ⟨m28, i28, t28, z28⟩ := cs.er 28 (by decide)
  have h28 := And.intro t28 (z28 (by decide))
  obtain ⟨m29, i29, t29, z29⟩ := cs.er 29 (by decide)
  have h29 := And.intro t29 (z29 (by decide))
  obtain ⟨m30, i30, t30, z30⟩ := cs.er 30 (by decide)
  have h30 := And.intro t30 (z30 (by decide))
  obtain ⟨m31, i31, t31, z31⟩ := cs.er 31 (by decide)
  have h31 := And.intro t31 (z31 (by decide))
  obtain ⟨m32, i32, t32, z32⟩ := cs.er 32 (by decide)
  have h32 := And.intro t32 (z32 (by decide))
  refine ⟨_, (pss_cons (ps_set (i := 1) scLaw.nd rfl (Or.inl rfl) (pe_call GPen (hr.mono (by decide)) rfl gPen kPen bPen .nil pass0 (pa_cons (pv 0) pa_nil)))
      (pss_cons (ps_set (i := 2) scLaw.nd rfl (Or.inr rfl) (pe_op op_cat (pe_op op_cat (pe_op op_cat (pe_op op_cat (pe_op op_cat (pe_op op_rep (pe_lst (pa_cons pe_int pa_nil)) pe_int) (pe_op op_rep (pe_lst (pa_cons pe_int pa_nil)) pe_int)) (pe_lst (pa_cons pe_int (pa_cons pe_int (pa_cons pe_int pa_nil))))) (pe_lst (pa_cons pe_int (pa_cons pe_int pa_nil)))) (pe_op op_rep (pe_lst (pa_cons pe_int pa_nil)) pe_int)) (pe_lst (pa_cons pe_int (pa_cons pe_int (pa_cons pe_int pa_nil))))))
      (pss_cons (ps_for PassesOwn.never rfl (pi_range1 rfl T.range (pa_cons pe_int pa_nil)) (pg_name (i := 3) scLaw.nd rfl (Or.inl rfl)) (pss_cons (ps_set (i := 4) scLaw.nd rfl (Or.inr rfl) (pe_call GOdd (hr.mono (by decide)) rfl gOdd kOdd bOdd .nil pass0 (pa_cons (pv 1) pa_nil)))
      (pss_cons (ps_par (i := 5) (j := 6) rfl scLaw.nd rfl rfl (by decide) rfl rfl (pa_cons (pe_call GWi (hr.mono (by decide)) rfl gWi kWi bWi .nil pass0 (pa_cons (pv 4) pa_nil)) (pa_cons (pe_call GBy (hr.mono (by decide)) rfl gBy kBy bBy .nil pass0 (pa_cons (pv 4) pa_nil)) pa_nil)) (by rfl))
      (pss_cons (ps_if (pt_cmpR (op_neD hu64) (pe_lc (own := [("_law_one", 17)]) (g := gName 17) (tt := tTest (tOp rNe (tCB (rRep K) (tCons (tErF P w K mg base "value" (tVar 17)) tNil)) (tCB (rRep K) (tCons (tVar 4) tNil)))) rfl scLaw.nd (pi_list (pe_op op_cat (pv 5) (pv 6))) (blkOk_by (N := Nlaw) (sc := defScope sLaw) (by decide +kernel)) (fun _ _ _ _ _ => pg_name (i := 17) scLaw.nd rfl (Or.inl rfl)) (fun _ _ _ _ _ => pts_one (pt_cmpR op_ne (pe_callB (call_rep rfl hu64) (by rfl) T.repr boot_repr (pa_cons (pe_errF (pv 17) (by rfl)) pa_nil)) (pe_callB (call_rep rfl hu64) (by rfl) T.repr boot_repr (pa_cons (pv 4) pa_nil)) (nomark _))) (fun _ _ _ _ _ => pv 17)) (pe_lst pa_nil) (nomark _)) (pss_one (ps_ret pe_bl)) pss_nil)
      (pss_cons (ps_set (i := 7) scLaw.nd rfl (Or.inl rfl) (pe_lst (pa_cons (pe_err (x := "TooMany") (f := "limit") (cs.ec 22 (by decide)) hr2 (pv 4) rfl) (pa_cons (pe_err (x := "TooLong") (f := "limit") (cs.ec 23 (by decide)) hr2 (pv 4) rfl) (pa_cons (pe_errK (x := "TooMany") (f := "limit") (cs.ec 22 (by decide)) hr2 (pv 4) rfl) (pa_cons (pe_errK (x := "TooLong") (f := "limit") (cs.ec 23 (by decide)) hr2 (pv 4) rfl) pa_nil))))))
      (pss_cons (ps_set (i := 8) scLaw.nd rfl (Or.inl rfl) (pe_lst (pa_cons (pe_err (x := "InvalidBundle") (f := "index") (cs.ec 24 (by decide)) hr2 (pv 4) rfl) (pa_cons (pe_err (x := "InvalidWorld") (f := "index") (cs.ec 25 (by decide)) hr2 (pv 4) rfl) (pa_cons (pe_errK (x := "InvalidBundle") (f := "index") (cs.ec 24 (by decide)) hr2 (pv 4) rfl) (pa_cons (pe_errK (x := "InvalidWorld") (f := "index") (cs.ec 25 (by decide)) hr2 (pv 4) rfl) pa_nil))))))
      (pss_cons (ps_set (i := 9) scLaw.nd rfl (Or.inl rfl) (pe_lst (pa_cons (pe_err (x := "InvalidProgram") (f := "place") (cs.ec 26 (by decide)) hr2 (pv 4) rfl) (pa_cons (pe_errK (x := "InvalidProgram") (f := "place") (cs.ec 26 (by decide)) hr2 (pv 4) rfl) pa_nil))))
      (pss_cons (ps_set (i := 10) scLaw.nd rfl (Or.inl rfl) (pe_lst (pa_cons (pe_err (x := "Unreadable") (f := "line") (cs.ec 27 (by decide)) hr2 (pv 4) rfl) (pa_cons (pe_errK (x := "Unreadable") (f := "line") (cs.ec 27 (by decide)) hr2 (pv 4) rfl) pa_nil))))
      (pss_cons (ps_set (i := 11) scLaw.nd rfl (Or.inl rfl) (pe_op op_cat (pe_op op_cat (pe_lc (own := [("_law_one", 17)]) (g := gName 17) (tt := tYes) (te := tErF P w K mg base "limit" (tVar 17)) rfl scLaw.nd (pi_list (pv 7)) (blkOk_by (N := Nlaw) (sc := defScope sLaw) (by decide +kernel)) (fun _ _ _ _ _ => pg_name (i := 17) scLaw.nd rfl (Or.inl rfl)) (fun _ _ _ _ _ => pts_nil) (fun _ _ _ _ _ => pe_errF (pv 17) (by rfl))) (pe_lc (own := [("_law_one", 17)]) (g := gName 17) (tt := tYes) (te := tErF P w K mg base "index" (tVar 17)) rfl scLaw.nd (pi_list (pv 8)) (blkOk_by (N := Nlaw) (sc := defScope sLaw) (by decide +kernel)) (fun _ _ _ _ _ => pg_name (i := 17) scLaw.nd rfl (Or.inl rfl)) (fun _ _ _ _ _ => pts_nil) (fun _ _ _ _ _ => pe_errF (pv 17) (by rfl)))) (pe_lc (own := [("_law_one", 17)]) (g := gName 17) (tt := tYes) (te := tErF P w K mg base "place" (tVar 17)) rfl scLaw.nd (pi_list (pv 9)) (blkOk_by (N := Nlaw) (sc := defScope sLaw) (by decide +kernel)) (fun _ _ _ _ _ => pg_name (i := 17) scLaw.nd rfl (Or.inl rfl)) (fun _ _ _ _ _ => pts_nil) (fun _ _ _ _ _ => pe_errF (pv 17) (by rfl)))))
      (pss_cons (ps_if (pt_cmpR op_ne (pe_callB (call_repL rfl hu64) (by rfl) T.repr boot_repr (pa_cons (pe_op op_cat (pv 11) (pe_lc (own := [("_law_one", 17)]) (g := gName 17) (tt := tYes) (te := tErF P w K mg base "line" (tVar 17)) rfl scLaw.nd (pi_list (pv 10)) (blkOk_by (N := Nlaw) (sc := defScope sLaw) (by decide +kernel)) (fun _ _ _ _ _ => pg_name (i := 17) scLaw.nd rfl (Or.inl rfl)) (fun _ _ _ _ _ => pts_nil) (fun _ _ _ _ _ => pe_errF (pv 17) (by rfl)))) pa_nil)) (pe_callB (call_repL rfl hu64) (by rfl) T.repr boot_repr (pa_cons (pe_op op_rep (pe_lst (pa_cons (pv 4) pa_nil)) pe_int) pa_nil)) (nomark _)) (pss_one (ps_ret pe_bl)) pss_nil)
      (pss_cons (ps_set (i := 12) scLaw.nd rfl (Or.inl rfl) (pe_lst (pa_cons (pe_err0 (x := "OtherProgram") (h28).1 (h28).2 (cs.gx 28 (by decide)) rfl) (pa_cons (pe_err0 (x := "NotJoined") (h29).1 (h29).2 (cs.gx 29 (by decide)) rfl) (pa_cons (pe_err0 (x := "NothingToUndo") (h30).1 (h30).2 (cs.gx 30 (by decide)) rfl) (pa_cons (pe_err0 (x := "NothingToRedo") (h31).1 (h31).2 (cs.gx 31 (by decide)) rfl) (pa_cons (pe_err0 (x := "InTrial") (h32).1 (h32).2 (cs.gx 32 (by decide)) rfl) pa_nil)))))))
      (pss_cons (ps_set (i := 13) scLaw.nd rfl (Or.inl rfl) (pe_op op_cat (pe_op op_cat (pe_op op_cat (pe_op op_cat (pe_op op_cat (pv 5) (pe_slice sl_list (pv 7) po_none (po_some pe_int))) (pe_slice sl_list (pv 8) po_none (po_some pe_int))) (pe_slice sl_list (pv 9) po_none (po_some pe_int))) (pe_slice sl_list (pv 10) po_none (po_some pe_int))) (pv 12)))
      (pss_cons (ps_set (i := 14) scLaw.nd rfl (Or.inl rfl) (pe_op op_cat (pe_op op_cat (pe_op op_cat (pe_op op_cat (pe_op op_cat (pv 6) (pe_slice sl_list (pv 7) (po_some pe_int) po_none)) (pe_slice sl_list (pv 8) (po_some pe_int) po_none)) (pe_slice sl_list (pv 9) (po_some pe_int) po_none)) (pe_slice sl_list (pv 10) (po_some pe_int) po_none)) (pv 12)))
      (pss_one (ps_for PassesOwn.never rfl (pi_range1 rfl T.range (pa_cons pe_int pa_nil)) (pg_name (i := 15) scLaw.nd rfl (Or.inr rfl)) (pss_cons (ps_if (pt_cmpR (op_neD hu64) (pe_call GCl (hr.mono (by decide)) rfl gCl kCl bCl .nil pass0 (pa_cons (pe_ix ix_list (pv 13) (pv 15) (fun _ _ => rfl)) pa_nil)) (pe_lc (own := [("_law_k", 18)]) (g := gName 18) (tt := tYes) rfl scLaw.nd (pi_range1 rfl T.range (pa_cons pe_int pa_nil)) (blkOk_by (N := Nlaw) (sc := defScope sLaw) (by decide +kernel)) (fun _ _ _ _ _ => pg_name (i := 18) scLaw.nd rfl (Or.inl rfl)) (fun _ _ _ _ _ => pts_nil) (fun _ _ _ _ _ => pe_cmpR op_eq (pv 15) (pv 18) (nomark _))) (nomark _)) (pss_one (ps_ret pe_bl)) pss_nil)
      (pss_cons (ps_if (pt_cmpR (op_neD hu64) (pe_call GCl (hr.mono (by decide)) rfl gCl kCl bCl .nil pass0 (pa_cons (pe_ix ix_list (pv 14) (pv 15) (fun _ _ => rfl)) pa_nil)) (pe_lc (own := [("_law_k", 18)]) (g := gName 18) (tt := tYes) rfl scLaw.nd (pi_range1 rfl T.range (pa_cons pe_int pa_nil)) (blkOk_by (N := Nlaw) (sc := defScope sLaw) (by decide +kernel)) (fun _ _ _ _ _ => pg_name (i := 18) scLaw.nd rfl (Or.inl rfl)) (fun _ _ _ _ _ => pts_nil) (fun _ _ _ _ _ => pe_cmpR op_eq (pv 15) (pv 18) (nomark _))) (nomark _)) (pss_one (ps_ret pe_bl)) pss_nil)
      (pss_cons (ps_setLc (i := 16) (own := [("_law_k", 18)]) (g := gName 18) (tt := tYes) (te := tOp rEq (tOp (rIxL K) (tVar 2) (tVar 15)) (tVar 18)) rfl scLaw.nd rfl rfl (sw_true rfl rfl rfl (by decide +kernel)) (pi_range1 rfl T.range (pa_cons pe_int pa_nil)) (blkOk_by (N := Nlaw) (sc := defScope sLaw) (by decide +kernel)) (fun _ _ _ _ _ => pg_name (i := 18) scLaw.nd rfl (Or.inl rfl)) (fun _ _ _ _ _ => pts_nil) (fun _ _ _ _ _ => pe_cmpR op_eq (pe_ix ix_list (pv 2) (pv 15) (fun _ _ => rfl)) (pv 18) (nomark _)))
      (pss_one (ps_if (PW.pt (pw_or (pt_cmpR (op_neD hu64) (pe_call GKi (hr.mono (by decide)) rfl gKi kKi bKi .nil pass0 (pa_cons (pe_ix ix_list (pv 13) (pv 15) (fun _ _ => rfl)) pa_nil)) (pv 16) (nomark _)) (pw_or1 (pt_cmpR (op_neD hu64) (pe_call GKi (hr.mono (by decide)) rfl gKi kKi bKi .nil pass0 (pa_cons (pe_ix ix_list (pv 14) (pv 15) (fun _ _ => rfl)) pa_nil)) (pv 16) (nomark _))))) (pss_one (ps_ret pe_bl)) pss_nil))))))))))))))))))))
      (pss_one (ps_ret pe_bl))))), ?_⟩
  refine ⟨_, rfl, a, ns, rfl, hS, hlen, fun p c H1 np e1 pen1 => ?_⟩
  refine q_asgL (el_is (el_catLL (el_catLL (el_catLL (el_catLL (el_catLL (el_repI (el_lst (ea_cons ev_c ea_nil) (by decide)) ev_c (by decide) (by decide)) (el_repI (el_lst (ea_cons ev_c ea_nil) (by decide)) ev_c (by decide) (by decide)) (by decide)) (el_lst (ea_cons ev_c (ea_cons ev_c (ea_cons ev_c ea_nil))) (by decide)) (by decide)) (el_lst (ea_cons ev_c (ea_cons ev_c ea_nil)) (by decide)) (by decide)) (el_repI (el_lst (ea_cons ev_c ea_nil) (by decide)) ev_c (by decide) (by decide)) (by decide)) (el_lst (ea_cons ev_c (ea_cons ev_c (ea_cons ev_c ea_nil))) (by decide)) (by decide))
    (show _ = (List.range 33).map fun j => V.int ((kd j : Nat) : Int) from rfl)) fun q H2 nq e2 hq => ?_
  have pen2 := pen1.ex e2
  clear pen1 np nq
  refine q_forR1 (ea_cons ev_c ea_nil) (by decide) (fun i σ G => ∃ (x3 x4 x5 x6 x7 x8 x9 x10 x11 x12 x13 x14 x15 x16 x17 x18 : Option V) (b r : Int),
    σ = [some (.ref a), some (.ref p), some (.ref q), x3, x4, x5, x6, x7, x8, x9, x10, x11, x12, x13, x14, x15, x16, x17, x18] ∧ PenAt G p c ns b r ∧ 0 ≤ b ∧ b ≤ (i : Int) ∧ 0 ≤ r ∧ G q = some (.lst ((List.range 33).map fun j => V.int ((kd j : Nat) : Int)))) ?h0 ?hs ?hd
  case h0 =>
    intro G e
    exact ⟨none, none, none, none, none, none, none, none, none, none, none, none, none, none, none, none, 0, 0, rfl, pen2.ex e, by omega, by omega, by omega, e _ _ hq⟩
  case hd =>
    intro σ G _
    exact s_ret ev_c fun G' _ => hQ G'
  case hs =>
    rintro i σ G0 hi ⟨x3, x4, x5, x6, x7, x8, x9, x10, x11, x12, x13, x14, x15, x16, x17, x18, b, r, rfl, pen, hb0, hbi, hr0, hk0⟩
    have hqp : q ≠ p := ne_of hk0 pen.d (by intro z; cases z)
    refine ⟨_, rfl, p, c, ns, b, r, rfl, pen, hlen, hb0, by omega, hr0, fun v d b' r' G1 hd ox hb' hb2 hr2 but pen' => ?_⟩
    have hk1 := but _ _ hk0 hqp
    have od := odds_ok d hd
    clear pen but hk0 hq hqp
    refine ⟨_, rfl, v, rfl, fun l5 s5 G2 n5 f2 h5 P5 => ⟨_, rfl, v, rfl, fun l6 s6 G3 n6 f3 h6 P6 => ⟨_, _, rfl, ?_⟩⟩⟩
    have f13 := f2.trans f3
    have ox3 := Ox.same f13 ox
    have pen3 := pen'.ex f13
    have hk3 := f13 _ _ hk1
    have h53 := f3 _ _ h5
    have P53 := prd_same errV_mono f3 P5
    have L5 : s5.length = 22 := P5.length
    have L6 : s6.length = 22 := P6.length
    clear ox pen' hk1 n5 n6 h5 P5 f2 f13
    have P56 := prd_app P53 P6
    refine q_when (b := false) (et_test (ev_opLL (el_is (el_lcNL (fun _ => false) (fun _ => .non) (el_catVV (ev_var rfl) h53 (ev_var rfl) h6 (by omega)) (by rw [List.length_append]; omega) (fun _ => rfl) (fun j x F eF hj => ?_) (fun j x F eF hj z => nomatch z)) given_none) (el_lst ea_nil (by decide)) (fun m n F hm hn eF => rv_neE hm hn))) (fun z => nomatch z) (fun _ G4 f4 => ?_)
    · obtain ⟨k, hk, E⟩ := prd_mem P56 hj
      have hk22 : k < 22 := by
        have := List.mem_of_getElem? hk
        simp only [List.mem_append, List.mem_range] at this
        omega
      exact et_test (ev_op (ev_rep (ev_erF cs (by omega) (fl_value k hk22) (ev_var rfl) (errV_mono _ _ _ _ eF E)) (Ox.same eF ox3) ⟨od.1, od.2.1, od.2.2.1⟩) (ev_rep (ev_var rfl) (Ox.same eF ox3) ⟨od.1, od.2.1, od.2.2.1⟩) rv_neS)
    have h54 := f4 _ _ h53
    have h64 := f4 _ _ h6
    have P54 := prd_same errV_mono f4 P53
    have P64 := prd_same errV_mono f4 P6
    have ox4 := Ox.same f4 ox3
    have pen4 := pen3.ex f4
    have hk4 := f4 _ _ hk3
    clear h53 h6 P53 P6 ox3 pen3 hk3 P56 f4 f3
    refine q_mkr (R := ErrV C v) errV_mono (mke (j := 22) (mke (j := 23) (mke (j := 22) (mke (j := 23) mkr_nil)))) (rfl : _ = some (some v)) trivial (by decide) fun l7 s7 G5 f5 _ h7 P7 => ?_
    refine q_mkr (R := ErrV C v) errV_mono (mke (j := 24) (mke (j := 25) (mke (j := 24) (mke (j := 25) mkr_nil)))) (rfl : _ = some (some v)) trivial (by decide) fun l8 s8 G6 f6 _ h8 P8 => ?_
    refine q_mkr (R := ErrV C v) errV_mono (mke (j := 26) (mke (j := 26) mkr_nil)) (rfl : _ = some (some v)) trivial (by decide) fun l9 s9 G7 f7 _ h9 P9 => ?_
    refine q_mkr (R := ErrV C v) errV_mono (mke (j := 27) (mke (j := 27) mkr_nil)) (rfl : _ = some (some v)) trivial (by decide) fun l10 s10 G8 f8 _ h10 P10 => ?_
    obtain ⟨y0, y1, y2, y3, rfl, a0, a1, a2, a3⟩ := prd4 P7
    obtain ⟨z0, z1, z2, z3, rfl, b0, b1, b2, b3⟩ := prd4 P8
    obtain ⟨u0, u1, rfl, c0, c1⟩ := prd2 P9
    obtain ⟨w0, w1, rfl, d0, d1⟩ := prd2 P10
    have f68 := f6.trans (f7.trans f8)
    have f58 := f5.trans f68
    have f78 := f7.trans f8
    have k7 := f68 _ _ h7
    have k8 := f78 _ _ h8
    have k9 := f8 _ _ h9
    have Q7 := prd_same errV_mono f68 P7
    have Q8 := prd_same errV_mono f78 P8
    have Q9 := prd_same errV_mono f8 P9
    have h58 := f58 _ _ h54
    have h68 := f58 _ _ h64
    have P58 := prd_same errV_mono f58 P54
    have P68 := prd_same errV_mono f58 P64
    have ox8 := Ox.same f58 ox4
    have pen8 := pen4.ex f58
    have hk8 := f58 _ _ hk4
    clear h7 h8 h9 P7 P8 P9 h54 h64 P54 P64 ox4 pen4 hk4 a0 a1 a2 a3 b0 b1 b2 b3 c0 c1 d0 d1
    refine q_asgL (el_is (el_catLL (el_catLL (el_fs cs fl_limit rfl k7 Q7 (by show 4 ≤ 40000; decide) (fun _ => rfl) (fun _ => rfl)) (el_fs cs fl_index rfl k8 Q8 (by show 4 ≤ 40000; decide) (fun _ => rfl) (fun _ => rfl)) (by show 4 + 4 ≤ 100000; decide)) (el_fs cs fl_place rfl k9 Q9 (by show 2 ≤ 40000; decide) (fun _ => rfl) (fun _ => rfl)) (by show 8 + 2 ≤ 100000; decide)) (show _ = List.replicate 10 v from rfl)) fun l11 G9 n11 f9 h11 => ?_
    refine q_when (b := false) (et_test (ev_op (ev_repL (n := 11) (d := d) (el_is (el_catVL (ev_var rfl) h11 (el_fs cs fl_line rfl (f9 _ _ h10) (prd_same errV_mono f9 P10) (by show 2 ≤ 40000; decide) (fun _ => rfl) (fun _ => rfl)) (by show 10 + 2 ≤ 100000; decide)) (show _ = List.replicate 12 v from rfl)) (Ox.same f9 ox8) ⟨od.1, od.2.1⟩ od.2.2.2)
      (ev_repL (n := 11) (d := d) (el_is (el_repI (el_lst (ea_cons (ev_var rfl) ea_nil) (by show 1 ≤ 100000; decide)) ev_c (by decide) (by show 1 * 12 ≤ 100000; decide)) (show _ = List.replicate 12 v from rfl)) (Ox.same f9 ox8) ⟨od.1, od.2.1⟩ od.2.2.2) rv_neS)) (fun z => nomatch z) (fun _ G10 f10 => ?_)
    have f810 := f9.trans f10
    refine q_mkr (R := fun H x j => IsErr H x (C j)) (v := v) (i := 4) (fun _ _ _ _ e h => IsErr.ex _ _ e h) (mk0 (mk0 (mk0 (mk0 (mk0 mkr_nil))))) (rfl : _ = some (some v)) trivial (by decide) fun l12 s12 G11 f11 _ h12 P12 => ?_
    have g := f810.trans f11
    have L12 : s12.length = 5 := P12.length
    refine q_asgL (el_is (el_catLV (el_catLL (el_catLL (el_catLL (el_catVL (ev_var rfl) (g _ _ h58) (el_sl (ev_var rfl) eo_none (eo_some ev_c) (sq_of (g _ _ k7))) (by show s5.length + 2 ≤ 100000; omega)) (el_sl (ev_var rfl) eo_none (eo_some ev_c) (sq_of (g _ _ k8))) (by rw [List.length_append]; show s5.length + 2 + 2 ≤ 100000; omega))
      (el_sl (ev_var rfl) eo_none (eo_some ev_c) (sq_of (g _ _ k9))) (by rw [List.length_append, List.length_append]; show s5.length + 2 + 2 + 1 ≤ 100000; omega)) (el_sl (ev_var rfl) eo_none (eo_some ev_c) (sq_of (g _ _ h10))) (by rw [List.length_append, List.length_append, List.length_append]; show s5.length + 2 + 2 + 1 + 1 ≤ 100000; omega)) (ev_var rfl) h12
      (by rw [List.length_append, List.length_append, List.length_append, List.length_append]; show s5.length + 2 + 2 + 1 + 1 + s12.length ≤ 100000; omega)) (show _ = s5 ++ [y0, y1] ++ [z0, z1] ++ [u0] ++ [w0] ++ s12 from rfl)) fun l13 G12 _ f12 h13 => ?_
    have g2 := g.trans f12
    refine q_asgL (el_is (el_catLV (el_catLL (el_catLL (el_catLL (el_catVL (ev_var rfl) (g2 _ _ h68) (el_sl (ev_var rfl) (eo_some ev_c) eo_none (sq_of (g2 _ _ k7))) (by show s6.length + 2 ≤ 100000; omega)) (el_sl (ev_var rfl) (eo_some ev_c) eo_none (sq_of (g2 _ _ k8))) (by rw [List.length_append]; show s6.length + 2 + 2 ≤ 100000; omega))
      (el_sl (ev_var rfl) (eo_some ev_c) eo_none (sq_of (g2 _ _ k9))) (by rw [List.length_append, List.length_append]; show s6.length + 2 + 2 + 1 ≤ 100000; omega)) (el_sl (ev_var rfl) (eo_some ev_c) eo_none (sq_of (g2 _ _ h10))) (by rw [List.length_append, List.length_append, List.length_append]; show s6.length + 2 + 2 + 1 + 1 ≤ 100000; omega)) (ev_var rfl) (f12 _ _ h12)
      (by rw [List.length_append, List.length_append, List.length_append, List.length_append]; show s6.length + 2 + 2 + 1 + 1 + s12.length ≤ 100000; omega)) (show _ = s6 ++ [y2, y3] ++ [z2, z3] ++ [u1] ++ [w1] ++ s12 from rfl)) fun l14 G13 _ f13 h14 => ?_
    have g3 := g2.trans f13
    have hE : Paired (fun x j => IsErr G13 x (C j)) (s5 ++ [y0, y1] ++ [z0, z1] ++ [u0] ++ [w0] ++ s12) (List.range 33) :=
      prd_app (R := fun H x j => IsErr H x (C j)) (prd_app (R := fun H x j => IsErr H x (C j)) (prd_app (R := fun H x j => IsErr H x (C j)) (prd_app (R := fun H x j => IsErr H x (C j)) (prd_app (R := fun H x j => IsErr H x (C j)) (prd_is (prd_same errV_mono g3 P58)) (prd_is (prd_same errV_mono g3 (prd_take 2 Q7)))) (prd_is (prd_same errV_mono g3 (prd_take 2 Q8)))) (prd_is (prd_same errV_mono g3 (prd_take 1 Q9)))) (prd_is (prd_same errV_mono g3 (prd_take 1 P10))))
        (prd_same (R := fun H x j => IsErr H x (C j)) (fun _ _ _ _ e h => IsErr.ex _ _ e h) (f12.trans f13) P12)
    have hA : Paired (fun x j => IsErr G13 x (C j)) (s6 ++ [y2, y3] ++ [z2, z3] ++ [u1] ++ [w1] ++ s12) (List.range 33) :=
      prd_app (R := fun H x j => IsErr H x (C j)) (prd_app (R := fun H x j => IsErr H x (C j)) (prd_app (R := fun H x j => IsErr H x (C j)) (prd_app (R := fun H x j => IsErr H x (C j)) (prd_app (R := fun H x j => IsErr H x (C j)) (prd_is (prd_same errV_mono g3 P68)) (prd_is (prd_same errV_mono g3 (prd_drop 2 Q7)))) (prd_is (prd_same errV_mono g3 (prd_drop 2 Q8)))) (prd_is (prd_same errV_mono g3 (prd_drop 1 Q9)))) (prd_is (prd_same errV_mono g3 (prd_drop 1 P10))))
        (prd_same (R := fun H x j => IsErr H x (C j)) (fun _ _ _ _ e h => IsErr.ex _ _ e h) (f12.trans f13) P12)
    have h13' := f13 _ _ h13
    have kq := g3 _ _ hk8
    have pen13 := pen8.ex g3
    generalize s5 ++ [y0, y1] ++ [z0, z1] ++ [u0] ++ [w0] ++ s12 = eE at hE h13'
    generalize s6 ++ [y2, y3] ++ [z2, z3] ++ [u1] ++ [w1] ++ s12 = eA at hA h14
    refine s_forR1 (ea_cons ev_c ea_nil) (by decide) (fun _ σ F => ∃ (w15 w16 w17 w18 : Option V),
      σ = [some (.ref a), some (.ref p), some (.ref q), some (.int (i : Int)), some v, some (.ref l5), some (.ref l6), some (.ref l7), some (.ref l8), some (.ref l9), some (.ref l10), some (.ref l11), some (.ref l12), some (.ref l13), some (.ref l14), w15, w16, w17, w18] ∧ Ex G13 F) ?i0 ?is ?id
    case i0 =>
      intro F e
      exact ⟨x15, x16, x17, x18, rfl, e⟩
    case id =>
      rintro σ F ⟨w15, w16, w17, w18, rfl, e⟩
      exact ⟨_, _, _, _, _, _, _, _, _, _, _, _, w15, w16, w17, w18, b', r', rfl, pen13.ex e, by omega, by omega, hr2, e _ _ kq⟩
    case is =>
      rintro j σ F hj ⟨w15, w16, w17, w18, rfl, e⟩
      have hj33 : j < 33 := by omega
      obtain ⟨x, hx, X⟩ := prd_get hE (show (List.range 33)[j]? = some j by rw [List.getElem?_range hj33])
      obtain ⟨y, hy, Y⟩ := prd_get hA (show (List.range 33)[j]? = some j by rw [List.getElem?_range hj33])
      refine q_when (b := false) (et_test (ev_opLL (el_call (ea_cons (ev_op (ev_var rfl) (ev_var rfl) (rv_ixL (sq_of (e _ _ h13')) (at_of rfl hx))) ea_nil) (spL_classes hj33 (IsErr.ex _ _ e X)))
        (el_bools (f := fun k => decide (j = k)) (n := 33) (el_lcR1 (fun _ => true) (fun k => .bl (decide (j = k))) (ea_cons ev_c ea_nil) (by decide) (fun _ => rfl) (fun _ _ _ _ => fun F1 _ Q q => q F1 (Ex.refl F1)) (fun k F1 _ _ _ => ev_op (ev_var rfl) (ev_var rfl) rv_eqI))) (fun m n F1 hm hn _ => rv_neB hm hn))) (fun z => nomatch z) (fun _ F1 e1 => ?_)
      have e01 := e.trans e1
      refine q_when (b := false) (et_test (ev_opLL (el_call (ea_cons (ev_op (ev_var rfl) (ev_var rfl) (rv_ixL (sq_of (e01 _ _ h14)) (at_of rfl hy))) ea_nil) (spL_classes hj33 (IsErr.ex _ _ e01 Y)))
        (el_bools (f := fun k => decide (j = k)) (n := 33) (el_lcR1 (fun _ => true) (fun k => .bl (decide (j = k))) (ea_cons ev_c ea_nil) (by decide) (fun _ => rfl) (fun _ _ _ _ => fun F1 _ Q q => q F1 (Ex.refl F1)) (fun k F1 _ _ _ => ev_op (ev_var rfl) (ev_var rfl) rv_eqI))) (fun m n F1 hm hn _ => rv_neB hm hn))) (fun z => nomatch z) (fun _ F2 e2 => ?_)
      have e02 := e01.trans e2
      have hkj : ((List.range 33).map fun j => V.int ((kd j : Nat) : Int))[j]? = some (V.int ((kd j : Nat) : Int)) := by
        rw [List.getElem?_map, List.getElem?_range hj33]
        rfl
      refine q_asgL (el_bools (f := fun k => decide (kd j = k)) (n := 5) (el_lcR1 (fun _ => true) (fun k => .bl (decide (kd j = k))) (ea_cons ev_c ea_nil) (by decide) (fun _ => rfl) (fun _ _ _ _ => fun F1 _ Q q => q F1 (Ex.refl F1)) (fun k F1 eF _ _ => ev_op (ev_op (ev_var rfl) (ev_var rfl) (rv_ixL (sq_of (eF _ _ (e02 _ _ kq))) (at_of rfl hkj))) (ev_var rfl) rv_eqI))) fun l16 F3 _ e3 h16 => ?_
      have e03 := e02.trans e3
      refine s_when (b := false) (et_or (a := false) (b := false) (et_test (ev_opL1 (el_call (ea_cons (ev_op (ev_var rfl) (ev_var rfl) (rv_ixL (sq_of (e03 _ _ h13')) (at_of rfl hx))) ea_nil) (spL_kinds hj33 (IsErr.ex _ _ e03 X))) (fun F4 _ => ev_var rfl) (fun m F4 hm eF => rv_neB hm (eF _ _ h16))))
        (fun _ => et_test (ev_opL1 (el_call (ea_cons (ev_op (ev_var rfl) (ev_var rfl) (rv_ixL (sq_of (e03 _ _ h14)) (at_of rfl hy))) ea_nil) (spL_kinds hj33 (IsErr.ex _ _ e03 Y))) (fun F4 _ => ev_var rfl) (fun m F4 hm eF => rv_neB hm (eF _ _ h16))))) (fun z => nomatch z) (fun _ F4 e4 => ?_)
      exact ⟨_, _, _, _, rfl, e03.trans e4⟩
end
end L2.K0

namespace L2.K0
open PySem PySem.Spec PyProof.Rows Evl

/-! ### the classes as they stand behind the top -/
def nI : Nat → String | 0 => "ValueError.__new__" | 1 => "LookupError.__new__" | 2 => "TypeError.__new__" | 3 => "OverflowError.__new__" | _ => "RuntimeError.__new__"
def iI : Nat → String | 0 => "ValueError.__init__" | 1 => "LookupError.__init__" | 2 => "TypeError.__init__" | 3 => "OverflowError.__init__" | _ => "RuntimeError.__init__"
theorem bFacts : ∀ k, ExcBaseFacts (bN k) (nI k) (iI k) (bmL k)
  | 0 => F.excBase_ValueError
  | 1 => F.excBase_LookupError
  | 2 => F.excBase_TypeError
  | 3 => F.excBase_OverflowError
  | _ + 4 => F.excBase_RuntimeError
theorem sFacts : ∀ k, StoreFacts (bN k) (bmL k) "object.__setattr__" "object"
  | 0 => F.store_ValueError
  | 1 => F.store_LookupError
  | 2 => F.store_TypeError
  | 3 => F.store_OverflowError
  | _ + 4 => F.store_RuntimeError
theorem tFacts4 : PySem.W.excTail (bmL 4) (bmL 4) = true := by decide +kernel
theorem tFacts : ∀ k, PySem.W.excTail (bmL k) (bmL k) = true
  | 0 => by decide +kernel
  | 1 => by decide +kernel
  | 2 => by decide +kernel
  | 3 => by decide +kernel
  | _ + 4 => tFacts4
section
variable {P : Program} {w : World} {K : PySem.W.Frag} {mg : Str → Option Value} {h : Heap} {C g : Addr} {k : Nat} {x f qual : Str} {st : Stmt} {p1 p2 p3 p4 : Pos}
variable {nm q : Str} {N : Addr} {bs : List Value} {sn : List Str} {sub : List Value} {ab : Bool} {col : Option Bool} {dd : Option Addr} {k0 k1 k2 k3 k5 : Option Value}
variable {oc kV doc pm cdv ct : Value} {od an : Option Addr} {osl : Array (Option Value)} {gt : Option Value}
/-- the words of a class -/
structure CW (K : PySem.W.Frag) (C : Addr) (k : Nat) : Prop where
  cls : ∃ nm q N bs sn sub ab col dd k0 k1 k2 k3 k5, K.lookup C = some (excClassObj nm q C N bs (bmL k) true sn sub ab col dd k0 k1 k2 k3 k5 (nI k))
  sa : PySem.W.findIn K (.ref C) "__setattr__" = some (some (.builtin "object.__setattr__"))
  ga : PySem.W.findIn K (.ref C) "__getattribute__" = some (some (.builtin "BaseException.__getattribute__"))
  gt : ∃ g, PySem.W.findIn K (.ref C) "__getattr__" = some g
  ca : PySem.W.findIn K (.ref C) "__class__" = some (some (.builtin "object.__class__"))
  kp : PySem.W.keepIn K (.ref C) = true
theorem CW.er (T : CW K C k) : ErrC K C (bN k) (nI k) (iI k) (bmL k) := ⟨bFacts k, sFacts k, tFacts k, T.cls, T.sa, T.ga, T.gt, T.ca, T.kp⟩
theorem cw_mk (a1 : K.lookup C = some (excClassObj nm q C N bs (bmL k) true sn sub ab col dd k0 k1 k2 k3 k5 (nI k))) (a2 : PySem.W.findIn K (.ref C) "__setattr__" = some (some (.builtin "object.__setattr__")))
    (a3 : PySem.W.findIn K (.ref C) "__getattribute__" = some (some (.builtin "BaseException.__getattribute__"))) (a4 : PySem.W.findIn K (.ref C) "__getattr__" = some gt)
    (a5 : PySem.W.findIn K (.ref C) "__class__" = some (some (.builtin "object.__class__"))) (a6 : PySem.W.keepIn K (.ref C) = true) : CW K C k :=
  ⟨⟨_, _, _, _, _, _, _, _, _, _, _, _, _, _, a1⟩, a2, a3, ⟨_, a4⟩, a5, a6⟩
/-- a class with an __init__ of its own -/
structure CI (P : Program) (w : World) (K : PySem.W.Frag) (mg : Str → Option Value) (x f : Str) (C : Addr) (k : Nat) : Prop where
  ec : ∀ base, EC P w K mg base x f C
  er : ErrC K C (bN k) (nI k) (iI k) (bmL k)
structure CB (K : PySem.W.Frag) (mg : Str → Option Value) (x : Str) (C : Addr) (k : Nat) : Prop where
  er : ErrC K C (bN k) (nI k) (iI k) (bmL k)
  ini : PySem.W.findIn K (.ref C) "__init__" = some (some (.builtin (iI k)))
  gx : mg x = some (.ref C)
theorem ci_gen (S : FnScope ["self", f] ["self", f] (defScope st)) (hb : defBody st = [.Assign [.Attribute (.Name "self" p1) f p2] (.Name f p3) p4]) (hf : (f == ("__debug__" : Str)) = false ∧ (f == ("__classdict__" : Str)) = false)
    (b1 : ∀ (kV doc pm : Value) (an : Option Addr) (cdv ct u0 u : Value), bindArgs (PySem.W.fnOf "__init__" qual (defArgs st) (defBody st) (defScope st) .none kV doc pm an cdv ct) ⟨[u0, u], []⟩ = pure [(("self" : Str), u0), (f, u)])
    (b2 : ∀ (kV doc pm : Value) (an : Option Addr) (cdv ct u0 u : Value), bindArgs (PySem.W.fnOf "__init__" qual (defArgs st) (defBody st) (defScope st) .none kV doc pm an cdv ct) ⟨[u0], [(f, u)]⟩ = pure [(("self" : Str), u0), (f, u)])
    (KX : K.In h) (G : h.Ns mainGlobals mg) (aC : PySem.W.nsIn K mainGlobals x = some (some (.ref C))) (T : CW K C k) (i1 : PySem.W.findIn K (.ref C) "__init__" = some (some (.ref g)))
    (l1 : K.lookup g = some ⟨oc, od, .func (PySem.W.fnOf "__init__" qual (defArgs st) (defBody st) (defScope st) .none kV doc pm an cdv ct), osl⟩) (c1 : PySem.W.codeIn K cdv qual = true) (kg : PySem.W.keepIn K (.ref g) = true)
    (tg : PySem.W.typeIn K (.ref g) = some (.type "function")) (no : PySem.W.findIn K (.ref C) f = some none) : CI P w K mg x f C k :=
  ⟨fun base => ⟨⟨bN k, nI k, iI k, bmL k, g, _, T.er, i1, tg, ok_init (fun_mk l1 c1 kg) S hb T.er no hf, fun s u0 u => BindsTo.of_eq (b1 kV doc pm an cdv ct u0 u), fun s u0 u => BindsTo.of_eq (b2 kV doc pm an cdv ct u0 u)⟩, no, PySem.W.mg_of KX G aC⟩, T.er⟩
theorem cb_gen (KX : K.In h) (G : h.Ns mainGlobals mg) (aC : PySem.W.nsIn K mainGlobals x = some (some (.ref C))) (T : CW K C k) (i1 : PySem.W.findIn K (.ref C) "__init__" = some (some (.builtin (iI k)))) : CB K mg x C k := ⟨T.er, i1, PySem.W.mg_of KX G aC⟩
theorem ci_0 (KX : K.In h) (G : h.Ns mainGlobals mg) (aC : PySem.W.nsIn K mainGlobals "DuplicateName" = some (some (.ref C))) (T : CW K C 0) (i1 : PySem.W.findIn K (.ref C) "__init__" = some (some (.ref g)))
    (l1 : K.lookup g = some ⟨oc, od, .func (PySem.W.fnOf "__init__" "DuplicateName.__init__" (defArgs (inClass (topS 2) 0)) (defBody (inClass (topS 2) 0)) (defScope (inClass (topS 2) 0)) .none kV doc pm an cdv ct), osl⟩) (c1 : PySem.W.codeIn K cdv "DuplicateName.__init__" = true) (kg : PySem.W.keepIn K (.ref g) = true)
    (tg : PySem.W.typeIn K (.ref g) = some (.type "function")) (no : PySem.W.findIn K (.ref C) "value" = some none) : CI P w K mg (nmS 0) (flS 0) C (kd 0) :=
  ci_gen (x := "DuplicateName") (f := "value") (k := 0) (st := inClass (topS 2) 0) ⟨rfl, rfl, rfl, by decide +kernel, rfl, by decide +kernel, by decide +kernel⟩ rfl (by decide) (fun _ _ _ _ _ _ _ _ => rfl) (fun _ _ _ _ _ _ _ _ => rfl) KX G aC T i1 l1 c1 kg tg no
theorem ci_1 (KX : K.In h) (G : h.Ns mainGlobals mg) (aC : PySem.W.nsIn K mainGlobals "WrongKind" = some (some (.ref C))) (T : CW K C 0) (i1 : PySem.W.findIn K (.ref C) "__init__" = some (some (.ref g)))
    (l1 : K.lookup g = some ⟨oc, od, .func (PySem.W.fnOf "__init__" "WrongKind.__init__" (defArgs (inClass (topS 3) 0)) (defBody (inClass (topS 3) 0)) (defScope (inClass (topS 3) 0)) .none kV doc pm an cdv ct), osl⟩) (c1 : PySem.W.codeIn K cdv "WrongKind.__init__" = true) (kg : PySem.W.keepIn K (.ref g) = true)
    (tg : PySem.W.typeIn K (.ref g) = some (.type "function")) (no : PySem.W.findIn K (.ref C) "value" = some none) : CI P w K mg (nmS 1) (flS 1) C (kd 1) :=
  ci_gen (x := "WrongKind") (f := "value") (k := 0) (st := inClass (topS 3) 0) ⟨rfl, rfl, rfl, by decide +kernel, rfl, by decide +kernel, by decide +kernel⟩ rfl (by decide) (fun _ _ _ _ _ _ _ _ => rfl) (fun _ _ _ _ _ _ _ _ => rfl) KX G aC T i1 l1 c1 kg tg no
theorem ci_2 (KX : K.In h) (G : h.Ns mainGlobals mg) (aC : PySem.W.nsIn K mainGlobals "WrongCount" = some (some (.ref C))) (T : CW K C 0) (i1 : PySem.W.findIn K (.ref C) "__init__" = some (some (.ref g)))
    (l1 : K.lookup g = some ⟨oc, od, .func (PySem.W.fnOf "__init__" "WrongCount.__init__" (defArgs (inClass (topS 4) 0)) (defBody (inClass (topS 4) 0)) (defScope (inClass (topS 4) 0)) .none kV doc pm an cdv ct), osl⟩) (c1 : PySem.W.codeIn K cdv "WrongCount.__init__" = true) (kg : PySem.W.keepIn K (.ref g) = true)
    (tg : PySem.W.typeIn K (.ref g) = some (.type "function")) (no : PySem.W.findIn K (.ref C) "value" = some none) : CI P w K mg (nmS 2) (flS 2) C (kd 2) :=
  ci_gen (x := "WrongCount") (f := "value") (k := 0) (st := inClass (topS 4) 0) ⟨rfl, rfl, rfl, by decide +kernel, rfl, by decide +kernel, by decide +kernel⟩ rfl (by decide) (fun _ _ _ _ _ _ _ _ => rfl) (fun _ _ _ _ _ _ _ _ => rfl) KX G aC T i1 l1 c1 kg tg no
theorem ci_3 (KX : K.In h) (G : h.Ns mainGlobals mg) (aC : PySem.W.nsIn K mainGlobals "Endless" = some (some (.ref C))) (T : CW K C 0) (i1 : PySem.W.findIn K (.ref C) "__init__" = some (some (.ref g)))
    (l1 : K.lookup g = some ⟨oc, od, .func (PySem.W.fnOf "__init__" "Endless.__init__" (defArgs (inClass (topS 5) 0)) (defBody (inClass (topS 5) 0)) (defScope (inClass (topS 5) 0)) .none kV doc pm an cdv ct), osl⟩) (c1 : PySem.W.codeIn K cdv "Endless.__init__" = true) (kg : PySem.W.keepIn K (.ref g) = true)
    (tg : PySem.W.typeIn K (.ref g) = some (.type "function")) (no : PySem.W.findIn K (.ref C) "value" = some none) : CI P w K mg (nmS 3) (flS 3) C (kd 3) :=
  ci_gen (x := "Endless") (f := "value") (k := 0) (st := inClass (topS 5) 0) ⟨rfl, rfl, rfl, by decide +kernel, rfl, by decide +kernel, by decide +kernel⟩ rfl (by decide) (fun _ _ _ _ _ _ _ _ => rfl) (fun _ _ _ _ _ _ _ _ => rfl) KX G aC T i1 l1 c1 kg tg no
theorem ci_4 (KX : K.In h) (G : h.Ns mainGlobals mg) (aC : PySem.W.nsIn K mainGlobals "InvalidList" = some (some (.ref C))) (T : CW K C 0) (i1 : PySem.W.findIn K (.ref C) "__init__" = some (some (.ref g)))
    (l1 : K.lookup g = some ⟨oc, od, .func (PySem.W.fnOf "__init__" "InvalidList.__init__" (defArgs (inClass (topS 7) 0)) (defBody (inClass (topS 7) 0)) (defScope (inClass (topS 7) 0)) .none kV doc pm an cdv ct), osl⟩) (c1 : PySem.W.codeIn K cdv "InvalidList.__init__" = true) (kg : PySem.W.keepIn K (.ref g) = true)
    (tg : PySem.W.typeIn K (.ref g) = some (.type "function")) (no : PySem.W.findIn K (.ref C) "value" = some none) : CI P w K mg (nmS 4) (flS 4) C (kd 4) :=
  ci_gen (x := "InvalidList") (f := "value") (k := 0) (st := inClass (topS 7) 0) ⟨rfl, rfl, rfl, by decide +kernel, rfl, by decide +kernel, by decide +kernel⟩ rfl (by decide) (fun _ _ _ _ _ _ _ _ => rfl) (fun _ _ _ _ _ _ _ _ => rfl) KX G aC T i1 l1 c1 kg tg no
theorem ci_5 (KX : K.In h) (G : h.Ns mainGlobals mg) (aC : PySem.W.nsIn K mainGlobals "InvalidWeights" = some (some (.ref C))) (T : CW K C 0) (i1 : PySem.W.findIn K (.ref C) "__init__" = some (some (.ref g)))
    (l1 : K.lookup g = some ⟨oc, od, .func (PySem.W.fnOf "__init__" "InvalidWeights.__init__" (defArgs (inClass (topS 8) 0)) (defBody (inClass (topS 8) 0)) (defScope (inClass (topS 8) 0)) .none kV doc pm an cdv ct), osl⟩) (c1 : PySem.W.codeIn K cdv "InvalidWeights.__init__" = true) (kg : PySem.W.keepIn K (.ref g) = true)
    (tg : PySem.W.typeIn K (.ref g) = some (.type "function")) (no : PySem.W.findIn K (.ref C) "value" = some none) : CI P w K mg (nmS 5) (flS 5) C (kd 5) :=
  ci_gen (x := "InvalidWeights") (f := "value") (k := 0) (st := inClass (topS 8) 0) ⟨rfl, rfl, rfl, by decide +kernel, rfl, by decide +kernel, by decide +kernel⟩ rfl (by decide) (fun _ _ _ _ _ _ _ _ => rfl) (fun _ _ _ _ _ _ _ _ => rfl) KX G aC T i1 l1 c1 kg tg no
theorem ci_6 (KX : K.In h) (G : h.Ns mainGlobals mg) (aC : PySem.W.nsIn K mainGlobals "InvalidNumber" = some (some (.ref C))) (T : CW K C 0) (i1 : PySem.W.findIn K (.ref C) "__init__" = some (some (.ref g)))
    (l1 : K.lookup g = some ⟨oc, od, .func (PySem.W.fnOf "__init__" "InvalidNumber.__init__" (defArgs (inClass (topS 9) 0)) (defBody (inClass (topS 9) 0)) (defScope (inClass (topS 9) 0)) .none kV doc pm an cdv ct), osl⟩) (c1 : PySem.W.codeIn K cdv "InvalidNumber.__init__" = true) (kg : PySem.W.keepIn K (.ref g) = true)
    (tg : PySem.W.typeIn K (.ref g) = some (.type "function")) (no : PySem.W.findIn K (.ref C) "value" = some none) : CI P w K mg (nmS 6) (flS 6) C (kd 6) :=
  ci_gen (x := "InvalidNumber") (f := "value") (k := 0) (st := inClass (topS 9) 0) ⟨rfl, rfl, rfl, by decide +kernel, rfl, by decide +kernel, by decide +kernel⟩ rfl (by decide) (fun _ _ _ _ _ _ _ _ => rfl) (fun _ _ _ _ _ _ _ _ => rfl) KX G aC T i1 l1 c1 kg tg no
theorem ci_7 (KX : K.In h) (G : h.Ns mainGlobals mg) (aC : PySem.W.nsIn K mainGlobals "InvalidName" = some (some (.ref C))) (T : CW K C 0) (i1 : PySem.W.findIn K (.ref C) "__init__" = some (some (.ref g)))
    (l1 : K.lookup g = some ⟨oc, od, .func (PySem.W.fnOf "__init__" "InvalidName.__init__" (defArgs (inClass (topS 13) 0)) (defBody (inClass (topS 13) 0)) (defScope (inClass (topS 13) 0)) .none kV doc pm an cdv ct), osl⟩) (c1 : PySem.W.codeIn K cdv "InvalidName.__init__" = true) (kg : PySem.W.keepIn K (.ref g) = true)
    (tg : PySem.W.typeIn K (.ref g) = some (.type "function")) (no : PySem.W.findIn K (.ref C) "value" = some none) : CI P w K mg (nmS 7) (flS 7) C (kd 7) :=
  ci_gen (x := "InvalidName") (f := "value") (k := 0) (st := inClass (topS 13) 0) ⟨rfl, rfl, rfl, by decide +kernel, rfl, by decide +kernel, by decide +kernel⟩ rfl (by decide) (fun _ _ _ _ _ _ _ _ => rfl) (fun _ _ _ _ _ _ _ _ => rfl) KX G aC T i1 l1 c1 kg tg no
theorem ci_8 (KX : K.In h) (G : h.Ns mainGlobals mg) (aC : PySem.W.nsIn K mainGlobals "InUse" = some (some (.ref C))) (T : CW K C 0) (i1 : PySem.W.findIn K (.ref C) "__init__" = some (some (.ref g)))
    (l1 : K.lookup g = some ⟨oc, od, .func (PySem.W.fnOf "__init__" "InUse.__init__" (defArgs (inClass (topS 14) 0)) (defBody (inClass (topS 14) 0)) (defScope (inClass (topS 14) 0)) .none kV doc pm an cdv ct), osl⟩) (c1 : PySem.W.codeIn K cdv "InUse.__init__" = true) (kg : PySem.W.keepIn K (.ref g) = true)
    (tg : PySem.W.typeIn K (.ref g) = some (.type "function")) (no : PySem.W.findIn K (.ref C) "value" = some none) : CI P w K mg (nmS 8) (flS 8) C (kd 8) :=
  ci_gen (x := "InUse") (f := "value") (k := 0) (st := inClass (topS 14) 0) ⟨rfl, rfl, rfl, by decide +kernel, rfl, by decide +kernel, by decide +kernel⟩ rfl (by decide) (fun _ _ _ _ _ _ _ _ => rfl) (fun _ _ _ _ _ _ _ _ => rfl) KX G aC T i1 l1 c1 kg tg no
theorem ci_9 (KX : K.In h) (G : h.Ns mainGlobals mg) (aC : PySem.W.nsIn K mainGlobals "GivenAway" = some (some (.ref C))) (T : CW K C 0) (i1 : PySem.W.findIn K (.ref C) "__init__" = some (some (.ref g)))
    (l1 : K.lookup g = some ⟨oc, od, .func (PySem.W.fnOf "__init__" "GivenAway.__init__" (defArgs (inClass (topS 15) 0)) (defBody (inClass (topS 15) 0)) (defScope (inClass (topS 15) 0)) .none kV doc pm an cdv ct), osl⟩) (c1 : PySem.W.codeIn K cdv "GivenAway.__init__" = true) (kg : PySem.W.keepIn K (.ref g) = true)
    (tg : PySem.W.typeIn K (.ref g) = some (.type "function")) (no : PySem.W.findIn K (.ref C) "value" = some none) : CI P w K mg (nmS 9) (flS 9) C (kd 9) :=
  ci_gen (x := "GivenAway") (f := "value") (k := 0) (st := inClass (topS 15) 0) ⟨rfl, rfl, rfl, by decide +kernel, rfl, by decide +kernel, by decide +kernel⟩ rfl (by decide) (fun _ _ _ _ _ _ _ _ => rfl) (fun _ _ _ _ _ _ _ _ => rfl) KX G aC T i1 l1 c1 kg tg no
theorem ci_10 (KX : K.In h) (G : h.Ns mainGlobals mg) (aC : PySem.W.nsIn K mainGlobals "NotSame" = some (some (.ref C))) (T : CW K C 0) (i1 : PySem.W.findIn K (.ref C) "__init__" = some (some (.ref g)))
    (l1 : K.lookup g = some ⟨oc, od, .func (PySem.W.fnOf "__init__" "NotSame.__init__" (defArgs (inClass (topS 16) 0)) (defBody (inClass (topS 16) 0)) (defScope (inClass (topS 16) 0)) .none kV doc pm an cdv ct), osl⟩) (c1 : PySem.W.codeIn K cdv "NotSame.__init__" = true) (kg : PySem.W.keepIn K (.ref g) = true)
    (tg : PySem.W.typeIn K (.ref g) = some (.type "function")) (no : PySem.W.findIn K (.ref C) "value" = some none) : CI P w K mg (nmS 10) (flS 10) C (kd 10) :=
  ci_gen (x := "NotSame") (f := "value") (k := 0) (st := inClass (topS 16) 0) ⟨rfl, rfl, rfl, by decide +kernel, rfl, by decide +kernel, by decide +kernel⟩ rfl (by decide) (fun _ _ _ _ _ _ _ _ => rfl) (fun _ _ _ _ _ _ _ _ => rfl) KX G aC T i1 l1 c1 kg tg no
theorem ci_11 (KX : K.In h) (G : h.Ns mainGlobals mg) (aC : PySem.W.nsIn K mainGlobals "CommandError" = some (some (.ref C))) (T : CW K C 0) (i1 : PySem.W.findIn K (.ref C) "__init__" = some (some (.ref g)))
    (l1 : K.lookup g = some ⟨oc, od, .func (PySem.W.fnOf "__init__" "CommandError.__init__" (defArgs (inClass (topS 18) 0)) (defBody (inClass (topS 18) 0)) (defScope (inClass (topS 18) 0)) .none kV doc pm an cdv ct), osl⟩) (c1 : PySem.W.codeIn K cdv "CommandError.__init__" = true) (kg : PySem.W.keepIn K (.ref g) = true)
    (tg : PySem.W.typeIn K (.ref g) = some (.type "function")) (no : PySem.W.findIn K (.ref C) "value" = some none) : CI P w K mg (nmS 11) (flS 11) C (kd 11) :=
  ci_gen (x := "CommandError") (f := "value") (k := 0) (st := inClass (topS 18) 0) ⟨rfl, rfl, rfl, by decide +kernel, rfl, by decide +kernel, by decide +kernel⟩ rfl (by decide) (fun _ _ _ _ _ _ _ _ => rfl) (fun _ _ _ _ _ _ _ _ => rfl) KX G aC T i1 l1 c1 kg tg no
theorem ci_12 (KX : K.In h) (G : h.Ns mainGlobals mg) (aC : PySem.W.nsIn K mainGlobals "UnknownName" = some (some (.ref C))) (T : CW K C 1) (i1 : PySem.W.findIn K (.ref C) "__init__" = some (some (.ref g)))
    (l1 : K.lookup g = some ⟨oc, od, .func (PySem.W.fnOf "__init__" "UnknownName.__init__" (defArgs (inClass (topS 19) 0)) (defBody (inClass (topS 19) 0)) (defScope (inClass (topS 19) 0)) .none kV doc pm an cdv ct), osl⟩) (c1 : PySem.W.codeIn K cdv "UnknownName.__init__" = true) (kg : PySem.W.keepIn K (.ref g) = true)
    (tg : PySem.W.typeIn K (.ref g) = some (.type "function")) (no : PySem.W.findIn K (.ref C) "value" = some none) : CI P w K mg (nmS 12) (flS 12) C (kd 12) :=
  ci_gen (x := "UnknownName") (f := "value") (k := 1) (st := inClass (topS 19) 0) ⟨rfl, rfl, rfl, by decide +kernel, rfl, by decide +kernel, by decide +kernel⟩ rfl (by decide) (fun _ _ _ _ _ _ _ _ => rfl) (fun _ _ _ _ _ _ _ _ => rfl) KX G aC T i1 l1 c1 kg tg no
theorem ci_13 (KX : K.In h) (G : h.Ns mainGlobals mg) (aC : PySem.W.nsIn K mainGlobals "UnknownPoint" = some (some (.ref C))) (T : CW K C 1) (i1 : PySem.W.findIn K (.ref C) "__init__" = some (some (.ref g)))
    (l1 : K.lookup g = some ⟨oc, od, .func (PySem.W.fnOf "__init__" "UnknownPoint.__init__" (defArgs (inClass (topS 20) 0)) (defBody (inClass (topS 20) 0)) (defScope (inClass (topS 20) 0)) .none kV doc pm an cdv ct), osl⟩) (c1 : PySem.W.codeIn K cdv "UnknownPoint.__init__" = true) (kg : PySem.W.keepIn K (.ref g) = true)
    (tg : PySem.W.typeIn K (.ref g) = some (.type "function")) (no : PySem.W.findIn K (.ref C) "value" = some none) : CI P w K mg (nmS 13) (flS 13) C (kd 13) :=
  ci_gen (x := "UnknownPoint") (f := "value") (k := 1) (st := inClass (topS 20) 0) ⟨rfl, rfl, rfl, by decide +kernel, rfl, by decide +kernel, by decide +kernel⟩ rfl (by decide) (fun _ _ _ _ _ _ _ _ => rfl) (fun _ _ _ _ _ _ _ _ => rfl) KX G aC T i1 l1 c1 kg tg no
theorem ci_14 (KX : K.In h) (G : h.Ns mainGlobals mg) (aC : PySem.W.nsIn K mainGlobals "UnknownUnit" = some (some (.ref C))) (T : CW K C 1) (i1 : PySem.W.findIn K (.ref C) "__init__" = some (some (.ref g)))
    (l1 : K.lookup g = some ⟨oc, od, .func (PySem.W.fnOf "__init__" "UnknownUnit.__init__" (defArgs (inClass (topS 21) 0)) (defBody (inClass (topS 21) 0)) (defScope (inClass (topS 21) 0)) .none kV doc pm an cdv ct), osl⟩) (c1 : PySem.W.codeIn K cdv "UnknownUnit.__init__" = true) (kg : PySem.W.keepIn K (.ref g) = true)
    (tg : PySem.W.typeIn K (.ref g) = some (.type "function")) (no : PySem.W.findIn K (.ref C) "value" = some none) : CI P w K mg (nmS 14) (flS 14) C (kd 14) :=
  ci_gen (x := "UnknownUnit") (f := "value") (k := 1) (st := inClass (topS 21) 0) ⟨rfl, rfl, rfl, by decide +kernel, rfl, by decide +kernel, by decide +kernel⟩ rfl (by decide) (fun _ _ _ _ _ _ _ _ => rfl) (fun _ _ _ _ _ _ _ _ => rfl) KX G aC T i1 l1 c1 kg tg no
theorem ci_15 (KX : K.In h) (G : h.Ns mainGlobals mg) (aC : PySem.W.nsIn K mainGlobals "UnknownMoment" = some (some (.ref C))) (T : CW K C 1) (i1 : PySem.W.findIn K (.ref C) "__init__" = some (some (.ref g)))
    (l1 : K.lookup g = some ⟨oc, od, .func (PySem.W.fnOf "__init__" "UnknownMoment.__init__" (defArgs (inClass (topS 22) 0)) (defBody (inClass (topS 22) 0)) (defScope (inClass (topS 22) 0)) .none kV doc pm an cdv ct), osl⟩) (c1 : PySem.W.codeIn K cdv "UnknownMoment.__init__" = true) (kg : PySem.W.keepIn K (.ref g) = true)
    (tg : PySem.W.typeIn K (.ref g) = some (.type "function")) (no : PySem.W.findIn K (.ref C) "value" = some none) : CI P w K mg (nmS 15) (flS 15) C (kd 15) :=
  ci_gen (x := "UnknownMoment") (f := "value") (k := 1) (st := inClass (topS 22) 0) ⟨rfl, rfl, rfl, by decide +kernel, rfl, by decide +kernel, by decide +kernel⟩ rfl (by decide) (fun _ _ _ _ _ _ _ _ => rfl) (fun _ _ _ _ _ _ _ _ => rfl) KX G aC T i1 l1 c1 kg tg no
theorem ci_16 (KX : K.In h) (G : h.Ns mainGlobals mg) (aC : PySem.W.nsIn K mainGlobals "InvalidIndex" = some (some (.ref C))) (T : CW K C 1) (i1 : PySem.W.findIn K (.ref C) "__init__" = some (some (.ref g)))
    (l1 : K.lookup g = some ⟨oc, od, .func (PySem.W.fnOf "__init__" "InvalidIndex.__init__" (defArgs (inClass (topS 23) 0)) (defBody (inClass (topS 23) 0)) (defScope (inClass (topS 23) 0)) .none kV doc pm an cdv ct), osl⟩) (c1 : PySem.W.codeIn K cdv "InvalidIndex.__init__" = true) (kg : PySem.W.keepIn K (.ref g) = true)
    (tg : PySem.W.typeIn K (.ref g) = some (.type "function")) (no : PySem.W.findIn K (.ref C) "value" = some none) : CI P w K mg (nmS 16) (flS 16) C (kd 16) :=
  ci_gen (x := "InvalidIndex") (f := "value") (k := 1) (st := inClass (topS 23) 0) ⟨rfl, rfl, rfl, by decide +kernel, rfl, by decide +kernel, by decide +kernel⟩ rfl (by decide) (fun _ _ _ _ _ _ _ _ => rfl) (fun _ _ _ _ _ _ _ _ => rfl) KX G aC T i1 l1 c1 kg tg no
theorem ci_17 (KX : K.In h) (G : h.Ns mainGlobals mg) (aC : PySem.W.nsIn K mainGlobals "OutOfRange" = some (some (.ref C))) (T : CW K C 1) (i1 : PySem.W.findIn K (.ref C) "__init__" = some (some (.ref g)))
    (l1 : K.lookup g = some ⟨oc, od, .func (PySem.W.fnOf "__init__" "OutOfRange.__init__" (defArgs (inClass (topS 24) 0)) (defBody (inClass (topS 24) 0)) (defScope (inClass (topS 24) 0)) .none kV doc pm an cdv ct), osl⟩) (c1 : PySem.W.codeIn K cdv "OutOfRange.__init__" = true) (kg : PySem.W.keepIn K (.ref g) = true)
    (tg : PySem.W.typeIn K (.ref g) = some (.type "function")) (no : PySem.W.findIn K (.ref C) "value" = some none) : CI P w K mg (nmS 17) (flS 17) C (kd 17) :=
  ci_gen (x := "OutOfRange") (f := "value") (k := 1) (st := inClass (topS 24) 0) ⟨rfl, rfl, rfl, by decide +kernel, rfl, by decide +kernel, by decide +kernel⟩ rfl (by decide) (fun _ _ _ _ _ _ _ _ => rfl) (fun _ _ _ _ _ _ _ _ => rfl) KX G aC T i1 l1 c1 kg tg no
theorem ci_18 (KX : K.In h) (G : h.Ns mainGlobals mg) (aC : PySem.W.nsIn K mainGlobals "NotHeld" = some (some (.ref C))) (T : CW K C 1) (i1 : PySem.W.findIn K (.ref C) "__init__" = some (some (.ref g)))
    (l1 : K.lookup g = some ⟨oc, od, .func (PySem.W.fnOf "__init__" "NotHeld.__init__" (defArgs (inClass (topS 25) 0)) (defBody (inClass (topS 25) 0)) (defScope (inClass (topS 25) 0)) .none kV doc pm an cdv ct), osl⟩) (c1 : PySem.W.codeIn K cdv "NotHeld.__init__" = true) (kg : PySem.W.keepIn K (.ref g) = true)
    (tg : PySem.W.typeIn K (.ref g) = some (.type "function")) (no : PySem.W.findIn K (.ref C) "value" = some none) : CI P w K mg (nmS 18) (flS 18) C (kd 18) :=
  ci_gen (x := "NotHeld") (f := "value") (k := 1) (st := inClass (topS 25) 0) ⟨rfl, rfl, rfl, by decide +kernel, rfl, by decide +kernel, by decide +kernel⟩ rfl (by decide) (fun _ _ _ _ _ _ _ _ => rfl) (fun _ _ _ _ _ _ _ _ => rfl) KX G aC T i1 l1 c1 kg tg no
theorem ci_19 (KX : K.In h) (G : h.Ns mainGlobals mg) (aC : PySem.W.nsIn K mainGlobals "NotFlag" = some (some (.ref C))) (T : CW K C 2) (i1 : PySem.W.findIn K (.ref C) "__init__" = some (some (.ref g)))
    (l1 : K.lookup g = some ⟨oc, od, .func (PySem.W.fnOf "__init__" "NotFlag.__init__" (defArgs (inClass (topS 28) 0)) (defBody (inClass (topS 28) 0)) (defScope (inClass (topS 28) 0)) .none kV doc pm an cdv ct), osl⟩) (c1 : PySem.W.codeIn K cdv "NotFlag.__init__" = true) (kg : PySem.W.keepIn K (.ref g) = true)
    (tg : PySem.W.typeIn K (.ref g) = some (.type "function")) (no : PySem.W.findIn K (.ref C) "value" = some none) : CI P w K mg (nmS 19) (flS 19) C (kd 19) :=
  ci_gen (x := "NotFlag") (f := "value") (k := 2) (st := inClass (topS 28) 0) ⟨rfl, rfl, rfl, by decide +kernel, rfl, by decide +kernel, by decide +kernel⟩ rfl (by decide) (fun _ _ _ _ _ _ _ _ => rfl) (fun _ _ _ _ _ _ _ _ => rfl) KX G aC T i1 l1 c1 kg tg no
theorem ci_20 (KX : K.In h) (G : h.Ns mainGlobals mg) (aC : PySem.W.nsIn K mainGlobals "TooDear" = some (some (.ref C))) (T : CW K C 3) (i1 : PySem.W.findIn K (.ref C) "__init__" = some (some (.ref g)))
    (l1 : K.lookup g = some ⟨oc, od, .func (PySem.W.fnOf "__init__" "TooDear.__init__" (defArgs (inClass (topS 31) 0)) (defBody (inClass (topS 31) 0)) (defScope (inClass (topS 31) 0)) .none kV doc pm an cdv ct), osl⟩) (c1 : PySem.W.codeIn K cdv "TooDear.__init__" = true) (kg : PySem.W.keepIn K (.ref g) = true)
    (tg : PySem.W.typeIn K (.ref g) = some (.type "function")) (no : PySem.W.findIn K (.ref C) "value" = some none) : CI P w K mg (nmS 20) (flS 20) C (kd 20) :=
  ci_gen (x := "TooDear") (f := "value") (k := 3) (st := inClass (topS 31) 0) ⟨rfl, rfl, rfl, by decide +kernel, rfl, by decide +kernel, by decide +kernel⟩ rfl (by decide) (fun _ _ _ _ _ _ _ _ => rfl) (fun _ _ _ _ _ _ _ _ => rfl) KX G aC T i1 l1 c1 kg tg no
theorem ci_21 (KX : K.In h) (G : h.Ns mainGlobals mg) (aC : PySem.W.nsIn K mainGlobals "Leaks" = some (some (.ref C))) (T : CW K C 4) (i1 : PySem.W.findIn K (.ref C) "__init__" = some (some (.ref g)))
    (l1 : K.lookup g = some ⟨oc, od, .func (PySem.W.fnOf "__init__" "Leaks.__init__" (defArgs (inClass (topS 33) 0)) (defBody (inClass (topS 33) 0)) (defScope (inClass (topS 33) 0)) .none kV doc pm an cdv ct), osl⟩) (c1 : PySem.W.codeIn K cdv "Leaks.__init__" = true) (kg : PySem.W.keepIn K (.ref g) = true)
    (tg : PySem.W.typeIn K (.ref g) = some (.type "function")) (no : PySem.W.findIn K (.ref C) "value" = some none) : CI P w K mg (nmS 21) (flS 21) C (kd 21) :=
  ci_gen (x := "Leaks") (f := "value") (k := 4) (st := inClass (topS 33) 0) ⟨rfl, rfl, rfl, by decide +kernel, rfl, by decide +kernel, by decide +kernel⟩ rfl (by decide) (fun _ _ _ _ _ _ _ _ => rfl) (fun _ _ _ _ _ _ _ _ => rfl) KX G aC T i1 l1 c1 kg tg no
theorem ci_22 (KX : K.In h) (G : h.Ns mainGlobals mg) (aC : PySem.W.nsIn K mainGlobals "TooMany" = some (some (.ref C))) (T : CW K C 3) (i1 : PySem.W.findIn K (.ref C) "__init__" = some (some (.ref g)))
    (l1 : K.lookup g = some ⟨oc, od, .func (PySem.W.fnOf "__init__" "TooMany.__init__" (defArgs (inClass (topS 29) 0)) (defBody (inClass (topS 29) 0)) (defScope (inClass (topS 29) 0)) .none kV doc pm an cdv ct), osl⟩) (c1 : PySem.W.codeIn K cdv "TooMany.__init__" = true) (kg : PySem.W.keepIn K (.ref g) = true)
    (tg : PySem.W.typeIn K (.ref g) = some (.type "function")) (no : PySem.W.findIn K (.ref C) "limit" = some none) : CI P w K mg (nmS 22) (flS 22) C (kd 22) :=
  ci_gen (x := "TooMany") (f := "limit") (k := 3) (st := inClass (topS 29) 0) ⟨rfl, rfl, rfl, by decide +kernel, rfl, by decide +kernel, by decide +kernel⟩ rfl (by decide) (fun _ _ _ _ _ _ _ _ => rfl) (fun _ _ _ _ _ _ _ _ => rfl) KX G aC T i1 l1 c1 kg tg no
theorem ci_23 (KX : K.In h) (G : h.Ns mainGlobals mg) (aC : PySem.W.nsIn K mainGlobals "TooLong" = some (some (.ref C))) (T : CW K C 3) (i1 : PySem.W.findIn K (.ref C) "__init__" = some (some (.ref g)))
    (l1 : K.lookup g = some ⟨oc, od, .func (PySem.W.fnOf "__init__" "TooLong.__init__" (defArgs (inClass (topS 30) 0)) (defBody (inClass (topS 30) 0)) (defScope (inClass (topS 30) 0)) .none kV doc pm an cdv ct), osl⟩) (c1 : PySem.W.codeIn K cdv "TooLong.__init__" = true) (kg : PySem.W.keepIn K (.ref g) = true)
    (tg : PySem.W.typeIn K (.ref g) = some (.type "function")) (no : PySem.W.findIn K (.ref C) "limit" = some none) : CI P w K mg (nmS 23) (flS 23) C (kd 23) :=
  ci_gen (x := "TooLong") (f := "limit") (k := 3) (st := inClass (topS 30) 0) ⟨rfl, rfl, rfl, by decide +kernel, rfl, by decide +kernel, by decide +kernel⟩ rfl (by decide) (fun _ _ _ _ _ _ _ _ => rfl) (fun _ _ _ _ _ _ _ _ => rfl) KX G aC T i1 l1 c1 kg tg no
theorem ci_24 (KX : K.In h) (G : h.Ns mainGlobals mg) (aC : PySem.W.nsIn K mainGlobals "InvalidBundle" = some (some (.ref C))) (T : CW K C 0) (i1 : PySem.W.findIn K (.ref C) "__init__" = some (some (.ref g)))
    (l1 : K.lookup g = some ⟨oc, od, .func (PySem.W.fnOf "__init__" "InvalidBundle.__init__" (defArgs (inClass (topS 6) 0)) (defBody (inClass (topS 6) 0)) (defScope (inClass (topS 6) 0)) .none kV doc pm an cdv ct), osl⟩) (c1 : PySem.W.codeIn K cdv "InvalidBundle.__init__" = true) (kg : PySem.W.keepIn K (.ref g) = true)
    (tg : PySem.W.typeIn K (.ref g) = some (.type "function")) (no : PySem.W.findIn K (.ref C) "index" = some none) : CI P w K mg (nmS 24) (flS 24) C (kd 24) :=
  ci_gen (x := "InvalidBundle") (f := "index") (k := 0) (st := inClass (topS 6) 0) ⟨rfl, rfl, rfl, by decide +kernel, rfl, by decide +kernel, by decide +kernel⟩ rfl (by decide) (fun _ _ _ _ _ _ _ _ => rfl) (fun _ _ _ _ _ _ _ _ => rfl) KX G aC T i1 l1 c1 kg tg no
theorem ci_25 (KX : K.In h) (G : h.Ns mainGlobals mg) (aC : PySem.W.nsIn K mainGlobals "InvalidWorld" = some (some (.ref C))) (T : CW K C 0) (i1 : PySem.W.findIn K (.ref C) "__init__" = some (some (.ref g)))
    (l1 : K.lookup g = some ⟨oc, od, .func (PySem.W.fnOf "__init__" "InvalidWorld.__init__" (defArgs (inClass (topS 10) 0)) (defBody (inClass (topS 10) 0)) (defScope (inClass (topS 10) 0)) .none kV doc pm an cdv ct), osl⟩) (c1 : PySem.W.codeIn K cdv "InvalidWorld.__init__" = true) (kg : PySem.W.keepIn K (.ref g) = true)
    (tg : PySem.W.typeIn K (.ref g) = some (.type "function")) (no : PySem.W.findIn K (.ref C) "index" = some none) : CI P w K mg (nmS 25) (flS 25) C (kd 25) :=
  ci_gen (x := "InvalidWorld") (f := "index") (k := 0) (st := inClass (topS 10) 0) ⟨rfl, rfl, rfl, by decide +kernel, rfl, by decide +kernel, by decide +kernel⟩ rfl (by decide) (fun _ _ _ _ _ _ _ _ => rfl) (fun _ _ _ _ _ _ _ _ => rfl) KX G aC T i1 l1 c1 kg tg no
theorem ci_26 (KX : K.In h) (G : h.Ns mainGlobals mg) (aC : PySem.W.nsIn K mainGlobals "InvalidProgram" = some (some (.ref C))) (T : CW K C 0) (i1 : PySem.W.findIn K (.ref C) "__init__" = some (some (.ref g)))
    (l1 : K.lookup g = some ⟨oc, od, .func (PySem.W.fnOf "__init__" "InvalidProgram.__init__" (defArgs (inClass (topS 1) 0)) (defBody (inClass (topS 1) 0)) (defScope (inClass (topS 1) 0)) .none kV doc pm an cdv ct), osl⟩) (c1 : PySem.W.codeIn K cdv "InvalidProgram.__init__" = true) (kg : PySem.W.keepIn K (.ref g) = true)
    (tg : PySem.W.typeIn K (.ref g) = some (.type "function")) (no : PySem.W.findIn K (.ref C) "place" = some none) : CI P w K mg (nmS 26) (flS 26) C (kd 26) :=
  ci_gen (x := "InvalidProgram") (f := "place") (k := 0) (st := inClass (topS 1) 0) ⟨rfl, rfl, rfl, by decide +kernel, rfl, by decide +kernel, by decide +kernel⟩ rfl (by decide) (fun _ _ _ _ _ _ _ _ => rfl) (fun _ _ _ _ _ _ _ _ => rfl) KX G aC T i1 l1 c1 kg tg no
theorem ci_27 (KX : K.In h) (G : h.Ns mainGlobals mg) (aC : PySem.W.nsIn K mainGlobals "Unreadable" = some (some (.ref C))) (T : CW K C 0) (i1 : PySem.W.findIn K (.ref C) "__init__" = some (some (.ref g)))
    (l1 : K.lookup g = some ⟨oc, od, .func (PySem.W.fnOf "__init__" "Unreadable.__init__" (defArgs (inClass (topS 17) 0)) (defBody (inClass (topS 17) 0)) (defScope (inClass (topS 17) 0)) .none kV doc pm an cdv ct), osl⟩) (c1 : PySem.W.codeIn K cdv "Unreadable.__init__" = true) (kg : PySem.W.keepIn K (.ref g) = true)
    (tg : PySem.W.typeIn K (.ref g) = some (.type "function")) (no : PySem.W.findIn K (.ref C) "line" = some none) : CI P w K mg (nmS 27) (flS 27) C (kd 27) :=
  ci_gen (x := "Unreadable") (f := "line") (k := 0) (st := inClass (topS 17) 0) ⟨rfl, rfl, rfl, by decide +kernel, rfl, by decide +kernel, by decide +kernel⟩ rfl (by decide) (fun _ _ _ _ _ _ _ _ => rfl) (fun _ _ _ _ _ _ _ _ => rfl) KX G aC T i1 l1 c1 kg tg no
theorem cb_28 (KX : K.In h) (G : h.Ns mainGlobals mg) (aC : PySem.W.nsIn K mainGlobals "OtherProgram" = some (some (.ref C))) (T : CW K C 0) (i1 : PySem.W.findIn K (.ref C) "__init__" = some (some (.builtin "ValueError.__init__"))) : CB K mg (nmS 28) C (kd 28) :=
  cb_gen (x := "OtherProgram") (k := 0) KX G aC T i1
theorem cb_29 (KX : K.In h) (G : h.Ns mainGlobals mg) (aC : PySem.W.nsIn K mainGlobals "NotJoined" = some (some (.ref C))) (T : CW K C 0) (i1 : PySem.W.findIn K (.ref C) "__init__" = some (some (.builtin "ValueError.__init__"))) : CB K mg (nmS 29) C (kd 29) :=
  cb_gen (x := "NotJoined") (k := 0) KX G aC T i1
theorem cb_30 (KX : K.In h) (G : h.Ns mainGlobals mg) (aC : PySem.W.nsIn K mainGlobals "NothingToUndo" = some (some (.ref C))) (T : CW K C 1) (i1 : PySem.W.findIn K (.ref C) "__init__" = some (some (.builtin "LookupError.__init__"))) : CB K mg (nmS 30) C (kd 30) :=
  cb_gen (x := "NothingToUndo") (k := 1) KX G aC T i1
theorem cb_31 (KX : K.In h) (G : h.Ns mainGlobals mg) (aC : PySem.W.nsIn K mainGlobals "NothingToRedo" = some (some (.ref C))) (T : CW K C 1) (i1 : PySem.W.findIn K (.ref C) "__init__" = some (some (.builtin "LookupError.__init__"))) : CB K mg (nmS 31) C (kd 31) :=
  cb_gen (x := "NothingToRedo") (k := 1) KX G aC T i1
theorem cb_32 (KX : K.In h) (G : h.Ns mainGlobals mg) (aC : PySem.W.nsIn K mainGlobals "InTrial" = some (some (.ref C))) (T : CW K C 4) (i1 : PySem.W.findIn K (.ref C) "__init__" = some (some (.builtin "RuntimeError.__init__"))) : CB K mg (nmS 32) C (kd 32) :=
  cb_gen (x := "InTrial") (k := 4) KX G aC T i1
end

section
variable {P : Program} {w : World} {K : PySem.W.Frag} {mg : Str → Option Value} {h : Heap} {fa : Addr}
theorem nodup_getD {l : List Nat} (nd : l.Nodup) {i j : Nat} (hi : i < l.length) (hj : j < l.length) (e : l.getD i 0 = l.getD j 0) : i = j := by
  rw [List.getD_eq_getElem?_getD, List.getD_eq_getElem?_getD, List.getElem?_eq_getElem hi, List.getElem?_eq_getElem hj] at e
  exact (List.getElem_inj nd).mp e
theorem cs_all {C0 C1 C2 C3 C4 C5 C6 C7 C8 C9 C10 C11 C12 C13 C14 C15 C16 C17 C18 C19 C20 C21 C22 C23 C24 C25 C26 C27 C28 C29 C30 C31 C32 : Addr} (h0 : CI P w K mg (nmS 0) (flS 0) C0 (kd 0)) (h1 : CI P w K mg (nmS 1) (flS 1) C1 (kd 1)) (h2 : CI P w K mg (nmS 2) (flS 2) C2 (kd 2)) (h3 : CI P w K mg (nmS 3) (flS 3) C3 (kd 3)) (h4 : CI P w K mg (nmS 4) (flS 4) C4 (kd 4)) (h5 : CI P w K mg (nmS 5) (flS 5) C5 (kd 5)) (h6 : CI P w K mg (nmS 6) (flS 6) C6 (kd 6)) (h7 : CI P w K mg (nmS 7) (flS 7) C7 (kd 7)) (h8 : CI P w K mg (nmS 8) (flS 8) C8 (kd 8)) (h9 : CI P w K mg (nmS 9) (flS 9) C9 (kd 9)) (h10 : CI P w K mg (nmS 10) (flS 10) C10 (kd 10)) (h11 : CI P w K mg (nmS 11) (flS 11) C11 (kd 11)) (h12 : CI P w K mg (nmS 12) (flS 12) C12 (kd 12)) (h13 : CI P w K mg (nmS 13) (flS 13) C13 (kd 13)) (h14 : CI P w K mg (nmS 14) (flS 14) C14 (kd 14)) (h15 : CI P w K mg (nmS 15) (flS 15) C15 (kd 15)) (h16 : CI P w K mg (nmS 16) (flS 16) C16 (kd 16)) (h17 : CI P w K mg (nmS 17) (flS 17) C17 (kd 17)) (h18 : CI P w K mg (nmS 18) (flS 18) C18 (kd 18)) (h19 : CI P w K mg (nmS 19) (flS 19) C19 (kd 19)) (h20 : CI P w K mg (nmS 20) (flS 20) C20 (kd 20)) (h21 : CI P w K mg (nmS 21) (flS 21) C21 (kd 21)) (h22 : CI P w K mg (nmS 22) (flS 22) C22 (kd 22)) (h23 : CI P w K mg (nmS 23) (flS 23) C23 (kd 23)) (h24 : CI P w K mg (nmS 24) (flS 24) C24 (kd 24)) (h25 : CI P w K mg (nmS 25) (flS 25) C25 (kd 25)) (h26 : CI P w K mg (nmS 26) (flS 26) C26 (kd 26)) (h27 : CI P w K mg (nmS 27) (flS 27) C27 (kd 27)) (h28 : CB K mg (nmS 28) C28 (kd 28)) (h29 : CB K mg (nmS 29) C29 (kd 29)) (h30 : CB K mg (nmS 30) C30 (kd 30)) (h31 : CB K mg (nmS 31) C31 (kd 31)) (h32 : CB K mg (nmS 32) C32 (kd 32)) (nd : ([C0, C1, C2, C3, C4, C5, C6, C7, C8, C9, C10, C11, C12, C13, C14, C15, C16, C17, C18, C19, C20, C21, C22, C23, C24, C25, C26, C27, C28, C29, C30, C31, C32] : List Addr).Nodup) (base : Heap) :
    Cs P w K mg base (fun j => ([C0, C1, C2, C3, C4, C5, C6, C7, C8, C9, C10, C11, C12, C13, C14, C15, C16, C17, C18, C19, C20, C21, C22, C23, C24, C25, C26, C27, C28, C29, C30, C31, C32] : List Addr).getD j 0) := by
  refine ⟨fun j hj => ?_, fun j hj => ?_, fun j hj => ?_, fun i j hi hj e => ?_⟩
  · match j, hj with
    | 0, _ => exact h0.ec base
    | 1, _ => exact h1.ec base
    | 2, _ => exact h2.ec base
    | 3, _ => exact h3.ec base
    | 4, _ => exact h4.ec base
    | 5, _ => exact h5.ec base
    | 6, _ => exact h6.ec base
    | 7, _ => exact h7.ec base
    | 8, _ => exact h8.ec base
    | 9, _ => exact h9.ec base
    | 10, _ => exact h10.ec base
    | 11, _ => exact h11.ec base
    | 12, _ => exact h12.ec base
    | 13, _ => exact h13.ec base
    | 14, _ => exact h14.ec base
    | 15, _ => exact h15.ec base
    | 16, _ => exact h16.ec base
    | 17, _ => exact h17.ec base
    | 18, _ => exact h18.ec base
    | 19, _ => exact h19.ec base
    | 20, _ => exact h20.ec base
    | 21, _ => exact h21.ec base
    | 22, _ => exact h22.ec base
    | 23, _ => exact h23.ec base
    | 24, _ => exact h24.ec base
    | 25, _ => exact h25.ec base
    | 26, _ => exact h26.ec base
    | 27, _ => exact h27.ec base
    | n + 28, hj => exact absurd hj (by omega)
  · match j, hj with
    | 0, _ => exact ⟨_, _, h0.er, fun z => absurd z (by decide)⟩
    | 1, _ => exact ⟨_, _, h1.er, fun z => absurd z (by decide)⟩
    | 2, _ => exact ⟨_, _, h2.er, fun z => absurd z (by decide)⟩
    | 3, _ => exact ⟨_, _, h3.er, fun z => absurd z (by decide)⟩
    | 4, _ => exact ⟨_, _, h4.er, fun z => absurd z (by decide)⟩
    | 5, _ => exact ⟨_, _, h5.er, fun z => absurd z (by decide)⟩
    | 6, _ => exact ⟨_, _, h6.er, fun z => absurd z (by decide)⟩
    | 7, _ => exact ⟨_, _, h7.er, fun z => absurd z (by decide)⟩
    | 8, _ => exact ⟨_, _, h8.er, fun z => absurd z (by decide)⟩
    | 9, _ => exact ⟨_, _, h9.er, fun z => absurd z (by decide)⟩
    | 10, _ => exact ⟨_, _, h10.er, fun z => absurd z (by decide)⟩
    | 11, _ => exact ⟨_, _, h11.er, fun z => absurd z (by decide)⟩
    | 12, _ => exact ⟨_, _, h12.er, fun z => absurd z (by decide)⟩
    | 13, _ => exact ⟨_, _, h13.er, fun z => absurd z (by decide)⟩
    | 14, _ => exact ⟨_, _, h14.er, fun z => absurd z (by decide)⟩
    | 15, _ => exact ⟨_, _, h15.er, fun z => absurd z (by decide)⟩
    | 16, _ => exact ⟨_, _, h16.er, fun z => absurd z (by decide)⟩
    | 17, _ => exact ⟨_, _, h17.er, fun z => absurd z (by decide)⟩
    | 18, _ => exact ⟨_, _, h18.er, fun z => absurd z (by decide)⟩
    | 19, _ => exact ⟨_, _, h19.er, fun z => absurd z (by decide)⟩
    | 20, _ => exact ⟨_, _, h20.er, fun z => absurd z (by decide)⟩
    | 21, _ => exact ⟨_, _, h21.er, fun z => absurd z (by decide)⟩
    | 22, _ => exact ⟨_, _, h22.er, fun z => absurd z (by decide)⟩
    | 23, _ => exact ⟨_, _, h23.er, fun z => absurd z (by decide)⟩
    | 24, _ => exact ⟨_, _, h24.er, fun z => absurd z (by decide)⟩
    | 25, _ => exact ⟨_, _, h25.er, fun z => absurd z (by decide)⟩
    | 26, _ => exact ⟨_, _, h26.er, fun z => absurd z (by decide)⟩
    | 27, _ => exact ⟨_, _, h27.er, fun z => absurd z (by decide)⟩
    | 28, _ => exact ⟨_, _, h28.er, fun _ => h28.ini⟩
    | 29, _ => exact ⟨_, _, h29.er, fun _ => h29.ini⟩
    | 30, _ => exact ⟨_, _, h30.er, fun _ => h30.ini⟩
    | 31, _ => exact ⟨_, _, h31.er, fun _ => h31.ini⟩
    | 32, _ => exact ⟨_, _, h32.er, fun _ => h32.ini⟩
    | n + 33, hj => exact absurd hj (by omega)
  · match j, hj with
    | 0, _ => exact (h0.ec base).gx
    | 1, _ => exact (h1.ec base).gx
    | 2, _ => exact (h2.ec base).gx
    | 3, _ => exact (h3.ec base).gx
    | 4, _ => exact (h4.ec base).gx
    | 5, _ => exact (h5.ec base).gx
    | 6, _ => exact (h6.ec base).gx
    | 7, _ => exact (h7.ec base).gx
    | 8, _ => exact (h8.ec base).gx
    | 9, _ => exact (h9.ec base).gx
    | 10, _ => exact (h10.ec base).gx
    | 11, _ => exact (h11.ec base).gx
    | 12, _ => exact (h12.ec base).gx
    | 13, _ => exact (h13.ec base).gx
    | 14, _ => exact (h14.ec base).gx
    | 15, _ => exact (h15.ec base).gx
    | 16, _ => exact (h16.ec base).gx
    | 17, _ => exact (h17.ec base).gx
    | 18, _ => exact (h18.ec base).gx
    | 19, _ => exact (h19.ec base).gx
    | 20, _ => exact (h20.ec base).gx
    | 21, _ => exact (h21.ec base).gx
    | 22, _ => exact (h22.ec base).gx
    | 23, _ => exact (h23.ec base).gx
    | 24, _ => exact (h24.ec base).gx
    | 25, _ => exact (h25.ec base).gx
    | 26, _ => exact (h26.ec base).gx
    | 27, _ => exact (h27.ec base).gx
    | 28, _ => exact h28.gx
    | 29, _ => exact h29.gx
    | 30, _ => exact h30.gx
    | 31, _ => exact h31.gx
    | 32, _ => exact h32.gx
    | n + 33, hj => exact absurd hj (by omega)
  · exact nodup_getD nd hi hj e
theorem run_all {C0 C1 C2 C3 C4 C5 C6 C7 C8 C9 C10 C11 C12 C13 C14 C15 C16 C17 C18 C19 C20 C21 C22 C23 C24 C25 C26 C27 C28 C29 C30 C31 C32 : Addr} {fL fPen fDraw fPick fOdd fKinds fClasses fWith fBy : Addr} {dL dPen dDraw dPick dOdd dKinds dClasses dWith dBy : FuncData}
    (KX : K.In h) (G : h.Ns mainGlobals mg) (hmg : mg "law" = some (.ref fa))
    (h0 : CI P w K mg (nmS 0) (flS 0) C0 (kd 0)) (h1 : CI P w K mg (nmS 1) (flS 1) C1 (kd 1)) (h2 : CI P w K mg (nmS 2) (flS 2) C2 (kd 2)) (h3 : CI P w K mg (nmS 3) (flS 3) C3 (kd 3)) (h4 : CI P w K mg (nmS 4) (flS 4) C4 (kd 4)) (h5 : CI P w K mg (nmS 5) (flS 5) C5 (kd 5)) (h6 : CI P w K mg (nmS 6) (flS 6) C6 (kd 6)) (h7 : CI P w K mg (nmS 7) (flS 7) C7 (kd 7)) (h8 : CI P w K mg (nmS 8) (flS 8) C8 (kd 8)) (h9 : CI P w K mg (nmS 9) (flS 9) C9 (kd 9)) (h10 : CI P w K mg (nmS 10) (flS 10) C10 (kd 10)) (h11 : CI P w K mg (nmS 11) (flS 11) C11 (kd 11)) (h12 : CI P w K mg (nmS 12) (flS 12) C12 (kd 12)) (h13 : CI P w K mg (nmS 13) (flS 13) C13 (kd 13)) (h14 : CI P w K mg (nmS 14) (flS 14) C14 (kd 14)) (h15 : CI P w K mg (nmS 15) (flS 15) C15 (kd 15)) (h16 : CI P w K mg (nmS 16) (flS 16) C16 (kd 16)) (h17 : CI P w K mg (nmS 17) (flS 17) C17 (kd 17)) (h18 : CI P w K mg (nmS 18) (flS 18) C18 (kd 18)) (h19 : CI P w K mg (nmS 19) (flS 19) C19 (kd 19)) (h20 : CI P w K mg (nmS 20) (flS 20) C20 (kd 20)) (h21 : CI P w K mg (nmS 21) (flS 21) C21 (kd 21)) (h22 : CI P w K mg (nmS 22) (flS 22) C22 (kd 22)) (h23 : CI P w K mg (nmS 23) (flS 23) C23 (kd 23)) (h24 : CI P w K mg (nmS 24) (flS 24) C24 (kd 24)) (h25 : CI P w K mg (nmS 25) (flS 25) C25 (kd 25)) (h26 : CI P w K mg (nmS 26) (flS 26) C26 (kd 26)) (h27 : CI P w K mg (nmS 27) (flS 27) C27 (kd 27))
    (h28 : CB K mg (nmS 28) C28 (kd 28)) (h29 : CB K mg (nmS 29) C29 (kd 29)) (h30 : CB K mg (nmS 30) C30 (kd 30)) (h31 : CB K mg (nmS 31) C31 (kd 31)) (h32 : CB K mg (nmS 32) C32 (kd 32))
    (nd : ([C0, C1, C2, C3, C4, C5, C6, C7, C8, C9, C10, C11, C12, C13, C14, C15, C16, C17, C18, C19, C20, C21, C22, C23, C24, C25, C26, C27, C28, C29, C30, C31, C32] : List Addr).Nodup)
    (gL : PySem.W.nsIn K mainGlobals "law" = some (some (.ref fL))) (FL : Fun K "law" "law" sLaw fL dL)
    (gPen : PySem.W.nsIn K mainGlobals "_law_pen" = some (some (.ref fPen))) (FPen : Fun K "_law_pen" "_law_pen" sPen fPen dPen)
    (gDraw : PySem.W.nsIn K mainGlobals "_law_draw" = some (some (.ref fDraw))) (FDraw : Fun K "_law_draw" "_law_draw" sDraw fDraw dDraw)
    (gPick : PySem.W.nsIn K mainGlobals "_law_pick" = some (some (.ref fPick))) (FPick : Fun K "_law_pick" "_law_pick" sPick fPick dPick)
    (gOdd : PySem.W.nsIn K mainGlobals "_law_odd" = some (some (.ref fOdd))) (FOdd : Fun K "_law_odd" "_law_odd" sOdd fOdd dOdd)
    (gKinds : PySem.W.nsIn K mainGlobals "_law_kinds" = some (some (.ref fKinds))) (FKinds : Fun K "_law_kinds" "_law_kinds" sKinds fKinds dKinds)
    (gClasses : PySem.W.nsIn K mainGlobals "_law_classes" = some (some (.ref fClasses))) (FClasses : Fun K "_law_classes" "_law_classes" sClasses fClasses dClasses)
    (gWith : PySem.W.nsIn K mainGlobals "_law_with_value" = some (some (.ref fWith))) (FWith : Fun K "_law_with_value" "_law_with_value" sWith fWith dWith)
    (gBy : PySem.W.nsIn K mainGlobals "_law_by_keyword" = some (some (.ref fBy))) (FBy : Fun K "_law_by_keyword" "_law_by_keyword" sByKw fBy dBy)
    (T : MgB mg) :
    ∃ fd : FuncData, Fun K "law" "law" sLaw fa fd ∧ (∀ (s : Shared) (u : Value), BindsTo s fd ⟨[u], []⟩ [("_law_script", u)]) ∧
      ∀ (a : Addr) (ns : List Int) (base : Heap) (s : Shared) (H : Hp) (cdv : Value) (Q : VK), ns.length ≤ 63 → K.In base → base.Ns mainGlobals mg → Only H → SqL K H a (ns.map V.int) → (∀ H', Q (.bl true) H') →
        Room 6 (callerA.deeper (envOfC "law" (defScope sLaw) s.heap.objs.size fa cdv)) →
        ∃ t, PSs (cxOf CX0 P w K mg base Nlaw "law" (defScope sLaw) fa cdv callerA [] s H E0).nox (defBody sLaw) t ∧ t { nx := fun _ H' => Q .non H', rt := Q } (start Nlaw [.ref a]) H := by
  have e : (Value.ref fa) = .ref fL := Option.some.inj (hmg.symm.trans (PySem.W.mg_of KX G gL))
  obtain rfl : fa = fL := by
    cases e
    rfl
  refine ⟨dL, FL, fun s u => ?_, fun a ns base s H cdv Q hl _ _ _ hS hQ hr => ?_⟩
  · obtain ⟨oc, od, kV, doc, pm, an, cdv, ct, osl, rfl, lk, hcd⟩ := FL.ex
    exact BindsTo.of_eq rfl
  · have cs := cs_all h0 h1 h2 h3 h4 h5 h6 h7 h8 h9 h10 h11 h12 h13 h14 h15 h16 h17 h18 h19 h20 h21 h22 h23 h24 h25 h26 h27 h28 h29 h30 h31 h32 nd base
    have bPen := FPen.binds (ps := ["_law_script"]) (fun _ _ _ _ _ _ us hl => match us, hl with | [_], _ => rfl)
    have bDraw := FDraw.binds (ps := ["_law_pen_here", "_law_many"]) (fun _ _ _ _ _ _ us hl => match us, hl with | [_, _], _ => rfl)
    have bPick := FPick.binds (ps := ["_law_pen_here", "_law_options"]) (fun _ _ _ _ _ _ us hl => match us, hl with | [_, _], _ => rfl)
    have bOdd := FOdd.binds (ps := ["_law_pen_here"]) (fun _ _ _ _ _ _ us hl => match us, hl with | [_], _ => rfl)
    have bKinds := FKinds.binds (ps := ["_law_one"]) (fun _ _ _ _ _ _ us hl => match us, hl with | [_], _ => rfl)
    have bClasses := FClasses.binds (ps := ["_law_one"]) (fun _ _ _ _ _ _ us hl => match us, hl with | [_], _ => rfl)
    have bWith := FWith.binds (ps := ["_law_a"]) (fun _ _ _ _ _ _ us hl => match us, hl with | [_], _ => rfl)
    have bBy := FBy.binds (ps := ["_law_a"]) (fun _ _ _ _ _ _ us hl => match us, hl with | [_], _ => rfl)
    have GPick : FnOk P w K mg base CX0 2 fPick dPick ["_law_pen_here", "_law_options"] spPick := ok_pick FPick T FDraw bDraw (PySem.W.mg_of KX G gDraw)
    exact law_body cs T (ok_pen FPen T) FPen.kp bPen (PySem.W.mg_of KX G gPen) (ok_odd FOdd GPick FPick.kp bPick (PySem.W.mg_of KX G gPick)) FOdd.kp bOdd (PySem.W.mg_of KX G gOdd)
      (ok_with_value FWith cs) FWith.kp bWith (PySem.W.mg_of KX G gWith) (ok_by_keyword FBy cs) FBy.kp bBy (PySem.W.mg_of KX G gBy) (ok_classes FClasses T cs) FClasses.kp bClasses (PySem.W.mg_of KX G gClasses)
      (ok_kinds FKinds T cs) FKinds.kp bKinds (PySem.W.mg_of KX G gKinds) hr hl hS hQ
theorem mgB_of (KX : K.In h) (G : h.Ns mainGlobals mg) (m0 : PySem.W.nsIn K mainGlobals "int" = some none) (m1 : PySem.W.nsIn K mainGlobals "len" = some none) (m2 : PySem.W.nsIn K mainGlobals "abs" = some none) (m3 : PySem.W.nsIn K mainGlobals "list" = some none)
    (m4 : PySem.W.nsIn K mainGlobals "repr" = some none) (m5 : PySem.W.nsIn K mainGlobals "isinstance" = some none) (m6 : PySem.W.nsIn K mainGlobals "range" = some none) (m7 : PySem.W.nsIn K mainGlobals "ValueError" = some none)
    (m8 : PySem.W.nsIn K mainGlobals "LookupError" = some none) (m9 : PySem.W.nsIn K mainGlobals "TypeError" = some none) (m10 : PySem.W.nsIn K mainGlobals "OverflowError" = some none) (m11 : PySem.W.nsIn K mainGlobals "RuntimeError" = some none) : MgB mg :=
  ⟨PySem.W.mg_none_of KX G m0, PySem.W.mg_none_of KX G m1, PySem.W.mg_none_of KX G m2, PySem.W.mg_none_of KX G m3, PySem.W.mg_none_of KX G m4, PySem.W.mg_none_of KX G m5, PySem.W.mg_none_of KX G m6, PySem.W.mg_none_of KX G m7, PySem.W.mg_none_of KX G m8, PySem.W.mg_none_of KX G m9, PySem.W.mg_none_of KX G m10, PySem.W.mg_none_of KX G m11⟩
end
end L2.K0

open PySem PySem.W PyProof.Rows
set_option maxRecDepth 100000 in
set_option maxHeartbeats 0 in
theorem PySem.Challenge.cw_heldby_k00_errors_made_from_their_fields_holds : PySem.Challenge.rw_heldby_k00_errors_made_from_their_fields.Holds := by
  w_on; o_law; k_head; (case hw => w_witness2)
  k_fill
  refine L2.K0.walkG (l := PySem.Challenge.rw_heldby_k00_errors_made_from_their_fields) (k := 6) (x := "_law_script") (qual := "law") (st := L2.K0.sLaw) (N := L2.K0.Nlaw) rfl (by decide) rfl ⟨rfl, by decide, by decide⟩ L2.K0.scLaw (fun w h Y => PySem.W.kIn_of Y) ?F
  intro w mg fa h KX G hmg
  refine' L2.K0.run_all KX G hmg ?h0 ?h1 ?h2 ?h3 ?h4 ?h5 ?h6 ?h7 ?h8 ?h9 ?h10 ?h11 ?h12 ?h13 ?h14 ?h15 ?h16 ?h17 ?h18 ?h19 ?h20 ?h21 ?h22 ?h23 ?h24 ?h25 ?h26 ?h27 ?h28 ?h29 ?h30 ?h31 ?h32 ?nd ?gL ?FL ?gPen ?FPen ?gDraw ?FDraw ?gPick ?FPick ?gOdd ?FOdd ?gKinds ?FKinds ?gClasses ?FClasses ?gWith ?FWith ?gBy ?FBy ?T
  case h0 =>
    refine' L2.K0.ci_0 KX G ?aCx0 ?Tx0 ?i1x0 ?l1x0 ?c1x0 ?kgx0 ?tgx0 ?nox0
    (case aCx0 => k_is)
    (case Tx0 => (refine' L2.K0.cw_mk ?a1x0 ?a2x0 ?a3x0 ?a4x0 ?a5x0 ?a6x0; (case a1x0 => k_is); (case a2x0 => k_is); (case a3x0 => k_is); (case a4x0 => k_is); (case a5x0 => k_is); (case a6x0 => k_is)))
    (case i1x0 => k_is); (case l1x0 => k_is); (case c1x0 => k_is); (case kgx0 => k_is); (case tgx0 => k_is); (case nox0 => k_is)
  case h1 =>
    refine' L2.K0.ci_1 KX G ?aCx1 ?Tx1 ?i1x1 ?l1x1 ?c1x1 ?kgx1 ?tgx1 ?nox1
    (case aCx1 => k_is)
    (case Tx1 => (refine' L2.K0.cw_mk ?a1x1 ?a2x1 ?a3x1 ?a4x1 ?a5x1 ?a6x1; (case a1x1 => k_is); (case a2x1 => k_is); (case a3x1 => k_is); (case a4x1 => k_is); (case a5x1 => k_is); (case a6x1 => k_is)))
    (case i1x1 => k_is); (case l1x1 => k_is); (case c1x1 => k_is); (case kgx1 => k_is); (case tgx1 => k_is); (case nox1 => k_is)
  case h2 =>
    refine' L2.K0.ci_2 KX G ?aCx2 ?Tx2 ?i1x2 ?l1x2 ?c1x2 ?kgx2 ?tgx2 ?nox2
    (case aCx2 => k_is)
    (case Tx2 => (refine' L2.K0.cw_mk ?a1x2 ?a2x2 ?a3x2 ?a4x2 ?a5x2 ?a6x2; (case a1x2 => k_is); (case a2x2 => k_is); (case a3x2 => k_is); (case a4x2 => k_is); (case a5x2 => k_is); (case a6x2 => k_is)))
    (case i1x2 => k_is); (case l1x2 => k_is); (case c1x2 => k_is); (case kgx2 => k_is); (case tgx2 => k_is); (case nox2 => k_is)
  case h3 =>
    refine' L2.K0.ci_3 KX G ?aCx3 ?Tx3 ?i1x3 ?l1x3 ?c1x3 ?kgx3 ?tgx3 ?nox3
    (case aCx3 => k_is)
    (case Tx3 => (refine' L2.K0.cw_mk ?a1x3 ?a2x3 ?a3x3 ?a4x3 ?a5x3 ?a6x3; (case a1x3 => k_is); (case a2x3 => k_is); (case a3x3 => k_is); (case a4x3 => k_is); (case a5x3 => k_is); (case a6x3 => k_is)))
    (case i1x3 => k_is); (case l1x3 => k_is); (case c1x3 => k_is); (case kgx3 => k_is); (case tgx3 => k_is); (case nox3 => k_is)
  case h4 =>
    refine' L2.K0.ci_4 KX G ?aCx4 ?Tx4 ?i1x4 ?l1x4 ?c1x4 ?kgx4 ?tgx4 ?nox4
    (case aCx4 => k_is)
    (case Tx4 => (refine' L2.K0.cw_mk ?a1x4 ?a2x4 ?a3x4 ?a4x4 ?a5x4 ?a6x4; (case a1x4 => k_is); (case a2x4 => k_is); (case a3x4 => k_is); (case a4x4 => k_is); (case a5x4 => k_is); (case a6x4 => k_is)))
    (case i1x4 => k_is); (case l1x4 => k_is); (case c1x4 => k_is); (case kgx4 => k_is); (case tgx4 => k_is); (case nox4 => k_is)
  case h5 =>
    refine' L2.K0.ci_5 KX G ?aCx5 ?Tx5 ?i1x5 ?l1x5 ?c1x5 ?kgx5 ?tgx5 ?nox5
    (case aCx5 => k_is)
    (case Tx5 => (refine' L2.K0.cw_mk ?a1x5 ?a2x5 ?a3x5 ?a4x5 ?a5x5 ?a6x5; (case a1x5 => k_is); (case a2x5 => k_is); (case a3x5 => k_is); (case a4x5 => k_is); (case a5x5 => k_is); (case a6x5 => k_is)))
    (case i1x5 => k_is); (case l1x5 => k_is); (case c1x5 => k_is); (case kgx5 => k_is); (case tgx5 => k_is); (case nox5 => k_is)
  case h6 =>
    refine' L2.K0.ci_6 KX G ?aCx6 ?Tx6 ?i1x6 ?l1x6 ?c1x6 ?kgx6 ?tgx6 ?nox6
    (case aCx6 => k_is)
    (case Tx6 => (refine' L2.K0.cw_mk ?a1x6 ?a2x6 ?a3x6 ?a4x6 ?a5x6 ?a6x6; (case a1x6 => k_is); (case a2x6 => k_is); (case a3x6 => k_is); (case a4x6 => k_is); (case a5x6 => k_is); (case a6x6 => k_is)))
    (case i1x6 => k_is); (case l1x6 => k_is); (case c1x6 => k_is); (case kgx6 => k_is); (case tgx6 => k_is); (case nox6 => k_is)
  case h7 =>
    refine' L2.K0.ci_7 KX G ?aCx7 ?Tx7 ?i1x7 ?l1x7 ?c1x7 ?kgx7 ?tgx7 ?nox7
    (case aCx7 => k_is)
    (case Tx7 => (refine' L2.K0.cw_mk ?a1x7 ?a2x7 ?a3x7 ?a4x7 ?a5x7 ?a6x7; (case a1x7 => k_is); (case a2x7 => k_is); (case a3x7 => k_is); (case a4x7 => k_is); (case a5x7 => k_is); (case a6x7 => k_is)))
    (case i1x7 => k_is); (case l1x7 => k_is); (case c1x7 => k_is); (case kgx7 => k_is); (case tgx7 => k_is); (case nox7 => k_is)
  case h8 =>
    refine' L2.K0.ci_8 KX G ?aCx8 ?Tx8 ?i1x8 ?l1x8 ?c1x8 ?kgx8 ?tgx8 ?nox8
    (case aCx8 => k_is)
    (case Tx8 => (refine' L2.K0.cw_mk ?a1x8 ?a2x8 ?a3x8 ?a4x8 ?a5x8 ?a6x8; (case a1x8 => k_is); (case a2x8 => k_is); (case a3x8 => k_is); (case a4x8 => k_is); (case a5x8 => k_is); (case a6x8 => k_is)))
    (case i1x8 => k_is); (case l1x8 => k_is); (case c1x8 => k_is); (case kgx8 => k_is); (case tgx8 => k_is); (case nox8 => k_is)
  case h9 =>
    refine' L2.K0.ci_9 KX G ?aCx9 ?Tx9 ?i1x9 ?l1x9 ?c1x9 ?kgx9 ?tgx9 ?nox9
    (case aCx9 => k_is)
    (case Tx9 => (refine' L2.K0.cw_mk ?a1x9 ?a2x9 ?a3x9 ?a4x9 ?a5x9 ?a6x9; (case a1x9 => k_is); (case a2x9 => k_is); (case a3x9 => k_is); (case a4x9 => k_is); (case a5x9 => k_is); (case a6x9 => k_is)))
    (case i1x9 => k_is); (case l1x9 => k_is); (case c1x9 => k_is); (case kgx9 => k_is); (case tgx9 => k_is); (case nox9 => k_is)
  case h10 =>
    refine' L2.K0.ci_10 KX G ?aCx10 ?Tx10 ?i1x10 ?l1x10 ?c1x10 ?kgx10 ?tgx10 ?nox10
    (case aCx10 => k_is)
    (case Tx10 => (refine' L2.K0.cw_mk ?a1x10 ?a2x10 ?a3x10 ?a4x10 ?a5x10 ?a6x10; (case a1x10 => k_is); (case a2x10 => k_is); (case a3x10 => k_is); (case a4x10 => k_is); (case a5x10 => k_is); (case a6x10 => k_is)))
    (case i1x10 => k_is); (case l1x10 => k_is); (case c1x10 => k_is); (case kgx10 => k_is); (case tgx10 => k_is); (case nox10 => k_is)
  case h11 =>
    refine' L2.K0.ci_11 KX G ?aCx11 ?Tx11 ?i1x11 ?l1x11 ?c1x11 ?kgx11 ?tgx11 ?nox11
    (case aCx11 => k_is)
    (case Tx11 => (refine' L2.K0.cw_mk ?a1x11 ?a2x11 ?a3x11 ?a4x11 ?a5x11 ?a6x11; (case a1x11 => k_is); (case a2x11 => k_is); (case a3x11 => k_is); (case a4x11 => k_is); (case a5x11 => k_is); (case a6x11 => k_is)))
    (case i1x11 => k_is); (case l1x11 => k_is); (case c1x11 => k_is); (case kgx11 => k_is); (case tgx11 => k_is); (case nox11 => k_is)
  case h12 =>
    refine' L2.K0.ci_12 KX G ?aCx12 ?Tx12 ?i1x12 ?l1x12 ?c1x12 ?kgx12 ?tgx12 ?nox12
    (case aCx12 => k_is)
    (case Tx12 => (refine' L2.K0.cw_mk ?a1x12 ?a2x12 ?a3x12 ?a4x12 ?a5x12 ?a6x12; (case a1x12 => k_is); (case a2x12 => k_is); (case a3x12 => k_is); (case a4x12 => k_is); (case a5x12 => k_is); (case a6x12 => k_is)))
    (case i1x12 => k_is); (case l1x12 => k_is); (case c1x12 => k_is); (case kgx12 => k_is); (case tgx12 => k_is); (case nox12 => k_is)
  case h13 =>
    refine' L2.K0.ci_13 KX G ?aCx13 ?Tx13 ?i1x13 ?l1x13 ?c1x13 ?kgx13 ?tgx13 ?nox13
    (case aCx13 => k_is)
    (case Tx13 => (refine' L2.K0.cw_mk ?a1x13 ?a2x13 ?a3x13 ?a4x13 ?a5x13 ?a6x13; (case a1x13 => k_is); (case a2x13 => k_is); (case a3x13 => k_is); (case a4x13 => k_is); (case a5x13 => k_is); (case a6x13 => k_is)))
    (case i1x13 => k_is); (case l1x13 => k_is); (case c1x13 => k_is); (case kgx13 => k_is); (case tgx13 => k_is); (case nox13 => k_is)
  case h14 =>
    refine' L2.K0.ci_14 KX G ?aCx14 ?Tx14 ?i1x14 ?l1x14 ?c1x14 ?kgx14 ?tgx14 ?nox14
    (case aCx14 => k_is)
    (case Tx14 => (refine' L2.K0.cw_mk ?a1x14 ?a2x14 ?a3x14 ?a4x14 ?a5x14 ?a6x14; (case a1x14 => k_is); (case a2x14 => k_is); (case a3x14 => k_is); (case a4x14 => k_is); (case a5x14 => k_is); (case a6x14 => k_is)))
    (case i1x14 => k_is); (case l1x14 => k_is); (case c1x14 => k_is); (case kgx14 => k_is); (case tgx14 => k_is); (case nox14 => k_is)
  case h15 =>
    refine' L2.K0.ci_15 KX G ?aCx15 ?Tx15 ?i1x15 ?l1x15 ?c1x15 ?kgx15 ?tgx15 ?nox15
    (case aCx15 => k_is)
    (case Tx15 => (refine' L2.K0.cw_mk ?a1x15 ?a2x15 ?a3x15 ?a4x15 ?a5x15 ?a6x15; (case a1x15 => k_is); (case a2x15 => k_is); (case a3x15 => k_is); (case a4x15 => k_is); (case a5x15 => k_is); (case a6x15 => k_is)))
    (case i1x15 => k_is); (case l1x15 => k_is); (case c1x15 => k_is); (case kgx15 => k_is); (case tgx15 => k_is); (case nox15 => k_is)
  case h16 =>
    refine' L2.K0.ci_16 KX G ?aCx16 ?Tx16 ?i1x16 ?l1x16 ?c1x16 ?kgx16 ?tgx16 ?nox16
    (case aCx16 => k_is)
    (case Tx16 => (refine' L2.K0.cw_mk ?a1x16 ?a2x16 ?a3x16 ?a4x16 ?a5x16 ?a6x16; (case a1x16 => k_is); (case a2x16 => k_is); (case a3x16 => k_is); (case a4x16 => k_is); (case a5x16 => k_is); (case a6x16 => k_is)))
    (case i1x16 => k_is); (case l1x16 => k_is); (case c1x16 => k_is); (case kgx16 => k_is); (case tgx16 => k_is); (case nox16 => k_is)
  case h17 =>
    refine' L2.K0.ci_17 KX G ?aCx17 ?Tx17 ?i1x17 ?l1x17 ?c1x17 ?kgx17 ?tgx17 ?nox17
    (case aCx17 => k_is)
    (case Tx17 => (refine' L2.K0.cw_mk ?a1x17 ?a2x17 ?a3x17 ?a4x17 ?a5x17 ?a6x17; (case a1x17 => k_is); (case a2x17 => k_is); (case a3x17 => k_is); (case a4x17 => k_is); (case a5x17 => k_is); (case a6x17 => k_is)))
    (case i1x17 => k_is); (case l1x17 => k_is); (case c1x17 => k_is); (case kgx17 => k_is); (case tgx17 => k_is); (case nox17 => k_is)
  case h18 =>
    refine' L2.K0.ci_18 KX G ?aCx18 ?Tx18 ?i1x18 ?l1x18 ?c1x18 ?kgx18 ?tgx18 ?nox18
    (case aCx18 => k_is)
    (case Tx18 => (refine' L2.K0.cw_mk ?a1x18 ?a2x18 ?a3x18 ?a4x18 ?a5x18 ?a6x18; (case a1x18 => k_is); (case a2x18 => k_is); (case a3x18 => k_is); (case a4x18 => k_is); (case a5x18 => k_is); (case a6x18 => k_is)))
    (case i1x18 => k_is); (case l1x18 => k_is); (case c1x18 => k_is); (case kgx18 => k_is); (case tgx18 => k_is); (case nox18 => k_is)
  case h19 =>
    refine' L2.K0.ci_19 KX G ?aCx19 ?Tx19 ?i1x19 ?l1x19 ?c1x19 ?kgx19 ?tgx19 ?nox19
    (case aCx19 => k_is)
    (case Tx19 => (refine' L2.K0.cw_mk ?a1x19 ?a2x19 ?a3x19 ?a4x19 ?a5x19 ?a6x19; (case a1x19 => k_is); (case a2x19 => k_is); (case a3x19 => k_is); (case a4x19 => k_is); (case a5x19 => k_is); (case a6x19 => k_is)))
    (case i1x19 => k_is); (case l1x19 => k_is); (case c1x19 => k_is); (case kgx19 => k_is); (case tgx19 => k_is); (case nox19 => k_is)
  case h20 =>
    refine' L2.K0.ci_20 KX G ?aCx20 ?Tx20 ?i1x20 ?l1x20 ?c1x20 ?kgx20 ?tgx20 ?nox20
    (case aCx20 => k_is)
    (case Tx20 => (refine' L2.K0.cw_mk ?a1x20 ?a2x20 ?a3x20 ?a4x20 ?a5x20 ?a6x20; (case a1x20 => k_is); (case a2x20 => k_is); (case a3x20 => k_is); (case a4x20 => k_is); (case a5x20 => k_is); (case a6x20 => k_is)))
    (case i1x20 => k_is); (case l1x20 => k_is); (case c1x20 => k_is); (case kgx20 => k_is); (case tgx20 => k_is); (case nox20 => k_is)
  case h21 =>
    refine' L2.K0.ci_21 KX G ?aCx21 ?Tx21 ?i1x21 ?l1x21 ?c1x21 ?kgx21 ?tgx21 ?nox21
    (case aCx21 => k_is)
    (case Tx21 => (refine' L2.K0.cw_mk ?a1x21 ?a2x21 ?a3x21 ?a4x21 ?a5x21 ?a6x21; (case a1x21 => k_is); (case a2x21 => k_is); (case a3x21 => k_is); (case a4x21 => k_is); (case a5x21 => k_is); (case a6x21 => k_is)))
    (case i1x21 => k_is); (case l1x21 => k_is); (case c1x21 => k_is); (case kgx21 => k_is); (case tgx21 => k_is); (case nox21 => k_is)
  case h22 =>
    refine' L2.K0.ci_22 KX G ?aCx22 ?Tx22 ?i1x22 ?l1x22 ?c1x22 ?kgx22 ?tgx22 ?nox22
    (case aCx22 => k_is)
    (case Tx22 => (refine' L2.K0.cw_mk ?a1x22 ?a2x22 ?a3x22 ?a4x22 ?a5x22 ?a6x22; (case a1x22 => k_is); (case a2x22 => k_is); (case a3x22 => k_is); (case a4x22 => k_is); (case a5x22 => k_is); (case a6x22 => k_is)))
    (case i1x22 => k_is); (case l1x22 => k_is); (case c1x22 => k_is); (case kgx22 => k_is); (case tgx22 => k_is); (case nox22 => k_is)
  case h23 =>
    refine' L2.K0.ci_23 KX G ?aCx23 ?Tx23 ?i1x23 ?l1x23 ?c1x23 ?kgx23 ?tgx23 ?nox23
    (case aCx23 => k_is)
    (case Tx23 => (refine' L2.K0.cw_mk ?a1x23 ?a2x23 ?a3x23 ?a4x23 ?a5x23 ?a6x23; (case a1x23 => k_is); (case a2x23 => k_is); (case a3x23 => k_is); (case a4x23 => k_is); (case a5x23 => k_is); (case a6x23 => k_is)))
    (case i1x23 => k_is); (case l1x23 => k_is); (case c1x23 => k_is); (case kgx23 => k_is); (case tgx23 => k_is); (case nox23 => k_is)
  case h24 =>
    refine' L2.K0.ci_24 KX G ?aCx24 ?Tx24 ?i1x24 ?l1x24 ?c1x24 ?kgx24 ?tgx24 ?nox24
    (case aCx24 => k_is)
    (case Tx24 => (refine' L2.K0.cw_mk ?a1x24 ?a2x24 ?a3x24 ?a4x24 ?a5x24 ?a6x24; (case a1x24 => k_is); (case a2x24 => k_is); (case a3x24 => k_is); (case a4x24 => k_is); (case a5x24 => k_is); (case a6x24 => k_is)))
    (case i1x24 => k_is); (case l1x24 => k_is); (case c1x24 => k_is); (case kgx24 => k_is); (case tgx24 => k_is); (case nox24 => k_is)
  case h25 =>
    refine' L2.K0.ci_25 KX G ?aCx25 ?Tx25 ?i1x25 ?l1x25 ?c1x25 ?kgx25 ?tgx25 ?nox25
    (case aCx25 => k_is)
    (case Tx25 => (refine' L2.K0.cw_mk ?a1x25 ?a2x25 ?a3x25 ?a4x25 ?a5x25 ?a6x25; (case a1x25 => k_is); (case a2x25 => k_is); (case a3x25 => k_is); (case a4x25 => k_is); (case a5x25 => k_is); (case a6x25 => k_is)))
    (case i1x25 => k_is); (case l1x25 => k_is); (case c1x25 => k_is); (case kgx25 => k_is); (case tgx25 => k_is); (case nox25 => k_is)
  case h26 =>
    refine' L2.K0.ci_26 KX G ?aCx26 ?Tx26 ?i1x26 ?l1x26 ?c1x26 ?kgx26 ?tgx26 ?nox26
    (case aCx26 => k_is)
    (case Tx26 => (refine' L2.K0.cw_mk ?a1x26 ?a2x26 ?a3x26 ?a4x26 ?a5x26 ?a6x26; (case a1x26 => k_is); (case a2x26 => k_is); (case a3x26 => k_is); (case a4x26 => k_is); (case a5x26 => k_is); (case a6x26 => k_is)))
    (case i1x26 => k_is); (case l1x26 => k_is); (case c1x26 => k_is); (case kgx26 => k_is); (case tgx26 => k_is); (case nox26 => k_is)
  case h27 =>
    refine' L2.K0.ci_27 KX G ?aCx27 ?Tx27 ?i1x27 ?l1x27 ?c1x27 ?kgx27 ?tgx27 ?nox27
    (case aCx27 => k_is)
    (case Tx27 => (refine' L2.K0.cw_mk ?a1x27 ?a2x27 ?a3x27 ?a4x27 ?a5x27 ?a6x27; (case a1x27 => k_is); (case a2x27 => k_is); (case a3x27 => k_is); (case a4x27 => k_is); (case a5x27 => k_is); (case a6x27 => k_is)))
    (case i1x27 => k_is); (case l1x27 => k_is); (case c1x27 => k_is); (case kgx27 => k_is); (case tgx27 => k_is); (case nox27 => k_is)
  case h28 =>
    refine' L2.K0.cb_28 KX G ?aCx28 ?Tx28 ?i1x28
    (case aCx28 => k_is)
    (case Tx28 => (refine' L2.K0.cw_mk ?a1x28 ?a2x28 ?a3x28 ?a4x28 ?a5x28 ?a6x28; (case a1x28 => k_is); (case a2x28 => k_is); (case a3x28 => k_is); (case a4x28 => k_is); (case a5x28 => k_is); (case a6x28 => k_is)))
    (case i1x28 => k_is)
  case h29 =>
    refine' L2.K0.cb_29 KX G ?aCx29 ?Tx29 ?i1x29
    (case aCx29 => k_is)
    (case Tx29 => (refine' L2.K0.cw_mk ?a1x29 ?a2x29 ?a3x29 ?a4x29 ?a5x29 ?a6x29; (case a1x29 => k_is); (case a2x29 => k_is); (case a3x29 => k_is); (case a4x29 => k_is); (case a5x29 => k_is); (case a6x29 => k_is)))
    (case i1x29 => k_is)
  case h30 =>
    refine' L2.K0.cb_30 KX G ?aCx30 ?Tx30 ?i1x30
    (case aCx30 => k_is)
    (case Tx30 => (refine' L2.K0.cw_mk ?a1x30 ?a2x30 ?a3x30 ?a4x30 ?a5x30 ?a6x30; (case a1x30 => k_is); (case a2x30 => k_is); (case a3x30 => k_is); (case a4x30 => k_is); (case a5x30 => k_is); (case a6x30 => k_is)))
    (case i1x30 => k_is)
  case h31 =>
    refine' L2.K0.cb_31 KX G ?aCx31 ?Tx31 ?i1x31
    (case aCx31 => k_is)
    (case Tx31 => (refine' L2.K0.cw_mk ?a1x31 ?a2x31 ?a3x31 ?a4x31 ?a5x31 ?a6x31; (case a1x31 => k_is); (case a2x31 => k_is); (case a3x31 => k_is); (case a4x31 => k_is); (case a5x31 => k_is); (case a6x31 => k_is)))
    (case i1x31 => k_is)
  case h32 =>
    refine' L2.K0.cb_32 KX G ?aCx32 ?Tx32 ?i1x32
    (case aCx32 => k_is)
    (case Tx32 => (refine' L2.K0.cw_mk ?a1x32 ?a2x32 ?a3x32 ?a4x32 ?a5x32 ?a6x32; (case a1x32 => k_is); (case a2x32 => k_is); (case a3x32 => k_is); (case a4x32 => k_is); (case a5x32 => k_is); (case a6x32 => k_is)))
    (case i1x32 => k_is)
  case nd => decide
  case gL => k_is
  case FL =>
    refine' L2.fun_mk ?lL ?cL ?kL
    (case lL => k_is); (case cL => k_is); (case kL => k_is)
  case gPen => k_is
  case FPen =>
    refine' L2.fun_mk ?lPen ?cPen ?kPen
    (case lPen => k_is); (case cPen => k_is); (case kPen => k_is)
  case gDraw => k_is
  case FDraw =>
    refine' L2.fun_mk ?lDraw ?cDraw ?kDraw
    (case lDraw => k_is); (case cDraw => k_is); (case kDraw => k_is)
  case gPick => k_is
  case FPick =>
    refine' L2.fun_mk ?lPick ?cPick ?kPick
    (case lPick => k_is); (case cPick => k_is); (case kPick => k_is)
  case gOdd => k_is
  case FOdd =>
    refine' L2.fun_mk ?lOdd ?cOdd ?kOdd
    (case lOdd => k_is); (case cOdd => k_is); (case kOdd => k_is)
  case gKinds => k_is
  case FKinds =>
    refine' L2.fun_mk ?lKinds ?cKinds ?kKinds
    (case lKinds => k_is); (case cKinds => k_is); (case kKinds => k_is)
  case gClasses => k_is
  case FClasses =>
    refine' L2.fun_mk ?lClasses ?cClasses ?kClasses
    (case lClasses => k_is); (case cClasses => k_is); (case kClasses => k_is)
  case gWith => k_is
  case FWith =>
    refine' L2.fun_mk ?lWith ?cWith ?kWith
    (case lWith => k_is); (case cWith => k_is); (case kWith => k_is)
  case gBy => k_is
  case FBy =>
    refine' L2.fun_mk ?lBy ?cBy ?kBy
    (case lBy => k_is); (case cBy => k_is); (case kBy => k_is)
  case T =>
    refine' L2.K0.mgB_of KX G ?m0 ?m1 ?m2 ?m3 ?m4 ?m5 ?m6 ?m7 ?m8 ?m9 ?m10 ?m11
    (case m0 => k_is); (case m1 => k_is); (case m2 => k_is); (case m3 => k_is); (case m4 => k_is); (case m5 => k_is); (case m6 => k_is); (case m7 => k_is); (case m8 => k_is); (case m9 => k_is); (case m10 => k_is); (case m11 => k_is)
