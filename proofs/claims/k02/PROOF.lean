import PyProof.Rows.All
import Wide.All
import OpenK.AllK
import Wide.FinOn
import PyProof.EqAt
import PyProof.EqKinds
import PyProof.TupleCall
import PyProof.ReprRoads
import KE.KExcInit
import HandS.ForExc
import HandS.ExcInit
import HandS.ExcValue
import HandS.TryMany
import HandS.IsInst
import HandS.ExcIs
import HandS.Defaults
import HandS.Comp
import HandS.Iter
import HandS.Text
import HandS.Style
import HandS.Flow
import KE.KExcIs
import HandS.Strs
import HandS.SetFor
import HandS.SetKeys
import KE.GoesMore
import HandS.Walk
import HandS.DictComp
import HandS.Zip
import HandS.Lambda
import HandS.EndTab
import KE.KIndexOf
import HandS.TupAny
import HandS.Head0
import HandS.Head1
import HandS.Head2
import HandS.HeadHook4
import HandS.HeadEnd
import HandS.NestedK
import PySem.Challenge.RW_boundorvoid_k02_what_lies_under
set_option Elab.async false
set_option linter.all false
set_option maxRecDepth 100000
set_option maxHeartbeats 4000000
namespace Bov
open PySem PySem.W PySem.Spec PySem.Calls PyProof.Rows PySem.HandSPX

section low
variable {pr : Program} {wd : World} {M : Model} {AA : Around} {EE : Value → Shared → Prop} {RR : Result → Shared → Prop} {hh : Heap} {gg : Array GenState} {dr : Drawn} {tt : Nat} {oss : OsState}
variable {nn qn : Str} {C N : Addr} {bs bm bmB : List Value} {hdct : Bool} {sn : List Str} {sub : List Value} {ab : Bool} {col : Option Bool} {dd : Option Addr} {k0 k1 k2 k3 k5 : Option Value} {B newId initId : String}

/-- the check ahead of the maker, whatever keywords -/
theorem chkNew (FB : ExcBaseFacts B newId initId bmB) (okB : bm.contains (.type B) = true) {vs : List Value} {kw : List (Str × Value)} {Q : Unit → Shared → Prop}
    (cl : hh.get? C = some (excClassObj nn qn C N bs bm hdct sn sub ab col dd k0 k1 k2 k3 k5 newId)) (fin : Q () ⟨hh, gg, dr, tt, oss⟩) :
    wpAny M AA (checkBuiltinCall newId ⟨.ref C :: vs, kw⟩) Q EE ⟨hh, gg, dr, tt, oss⟩ := by
  have inB : (Value.ref C :: bm).contains (.type B) = true := by
    rw [List.contains_cons, okB]
    exact Bool.or_true _
  have star := FB.noStar
  simp only [checkBuiltinCall, FB.newKind, FB.newSplit, FB.newRow]
  repeat (first
    | refine wpAny_loadPart_at cl ?_
    | (refine wpAny_isSubtype_exc cl ?_; rw [inB])
    | refine wpAny_staticBase_exc cl ?_
    | refine wpAny_madeBy_exc cl ?_
    | simp only [bne_self_eq_false, Bool.false_eq_true, if_false]
    | wp_step)
  all_goals first | exact fin | skip

theorem newKw (FB : ExcBaseFacts B newId initId bmB) (okB : bm.contains (.type B) = true) (okA : bm.contains (.type "AttributeError") = false) (okN : bm.contains (.type "NameError") = false) {vs : List Value} {kw : List (Str × Value)}
    (cl : hh.get? C = some (excClassObj nn qn C N bs bm hdct sn sub ab col dd k0 k1 k2 k3 k5 newId)) (few : vs.length ≤ sizeLine)
    (fin : RR (.ok (.ret (.ref (hh.objs.size + 1)))) ⟨(hh.push (kdv_tup vs)).push (excO C hh.objs.size), gg, dr, tt, oss⟩) :
    codeAny (model pr wd) AA (.builtin newId ⟨.ref C :: vs, kw⟩) RR ⟨hh, gg, dr, tt, oss⟩ := by
  have es := FB.ends
  have inB : (Value.ref C :: bm).contains (.type B) = true := by
    rw [List.contains_cons, okB]
    exact Bool.or_true _
  have noA : (Value.ref C :: bm).contains (.type "AttributeError") = false := by
    rw [List.contains_cons, okA]
    rfl
  have noN : (Value.ref C :: bm).contains (.type "NameError") = false := by
    rw [List.contains_cons, okN]
    rfl
  refine codeAny_builtinAt FB.entry ?_
  unfold Builtin.«BaseException.__new__»
  refine PySem.wpAt_bind ?_
  show PySem.wpAt _ _ _ (stack >>= _) _ _ _
  refine PySem.wpAt_bind (PySem.wpAt_stack fun p0 below0 => PySem.wpAt_of_wpAny ?_)
  wp_walk
  refine PySem.wpAt_of_wpAny ?_
  rw [FB.owner]
  repeat (first
    | with_reducible refine wpAny_madeHere_exc FB.canon cl ?_
    | with_reducible refine wpAny_loadPart_at cl ?_
    | (with_reducible refine wpAny_isSubtype_exc cl ?_; first | rw [inB] | rw [noA] | rw [noN])
    | wp_step)
  show RR _ _
  rw [Heap.size_push]
  exact fin
theorem typeKw (FB : ExcBaseFacts B newId initId bmB) (okB : bm.contains (.type B) = true) (okA : bm.contains (.type "AttributeError") = false) (okN : bm.contains (.type "NameError") = false) {vs : List Value} {kw : List (Str × Value)} {fI : Addr} {Q : Fin → Shared → Prop}
    (cl : hh.get? C = some (excClassObj nn qn C N bs bm hdct sn sub ab col dd k0 k1 k2 k3 k5 newId)) (few : vs.length ≤ sizeLine)
    (fi : W.Looks (model pr wd) hh (typeLookup (.ref C) "__init__") (some (.ref fI))) (fb : ∀ me, W.Looks (model pr wd) hh (bindSpecial (.ref fI) me) (.ref fI, [me]))
    (fin : codeAny (model pr wd) AA (.call (.ref fI) ⟨.ref (hh.objs.size + 1) :: vs, kw⟩)
      (fun r s' => match r with | .ok (.ret v) => v = .none ∧ Q (.done (.ret (.ref (hh.objs.size + 1)))) s' | .ok _ => False | .error e => EE e s')
      ⟨(hh.push (kdv_tup vs)).push (excO C hh.objs.size), gg, dr, tt, oss⟩) :
    wpAny (model pr wd) AA (Builtin.«type.__call__» ⟨.ref C :: vs, kw⟩) Q EE ⟨hh, gg, dr, tt, oss⟩ := by
  repeat (first
    | with_reducible refine wpAny_loadPart_at cl ?_
    | with_reducible refine wpAny_madeBy_exc cl ?_
    | wp_step)
  refine codeAny_call_builtin_code (Code.quiet_builtin _ FB.quiet) (chkNew FB okB cl ?_)
  refine newKw FB okB okA okN cl few ?_
  show wpAny _ _ _ _ _ _
  have keep : ∀ b o, hh.get? b = some o → ((hh.push (kdv_tup vs)).push (excO C hh.objs.size)).get? b = some o := fun b o e0 => Heap.get?_push_of_some _ (Heap.get?_push_of_some _ e0)
  have cl2 := keep _ _ cl
  have there : ((hh.push (kdv_tup vs)).push (excO C hh.objs.size)).get? (hh.objs.size + 1) = some (excO C hh.objs.size) := by heap_get
  have selfIn : (Value.ref C :: bm).contains (.ref C) = true := by simp
  have fi2 := fi.keeps keep
  have fb2 := (fb (.ref (hh.objs.size + 1))).keeps keep
  unfold isInstance
  repeat (first
    | with_reducible refine wpAny_loadPart_at there ?_
    | (with_reducible refine wpAny_isSubtype_exc cl2 ?_; rw [selfIn])
    | wp_step)
  show wpAny _ _ (typeLookup (.ref C) _) _ _ _
  refine fi2.at ?_
  refine wpAny_holding (wpAny_bind (fb2.at ?_))
  refine wpAny_bind (wpAny_call (codeAny_mono fin fun r s' z => ?_))
  rcases r with e | (v | _ | _ | _) <;> first | exact z | exact z.elim | skip
  obtain ⟨rfl, z⟩ := z
  first
    | exact wpAny_pure (wpAny_pure z)
    | (wp_walk; exact z)
theorem chkCall {vs : List Value} {kw : List (Str × Value)} {Q : Unit → Shared → Prop} (cl : hh.get? C = some (excClassObj nn qn C N bs bm hdct sn sub ab col dd k0 k1 k2 k3 k5 newId))
    (fin : Q () ⟨hh, gg, dr, tt, oss⟩) : wpAny M AA (checkBuiltinCall "type.__call__" ⟨.ref C :: vs, kw⟩) Q EE ⟨hh, gg, dr, tt, oss⟩ := by
  have f3 := tc_sub
  have tyT : (⟨hh, gg, dr, tt, oss⟩ : Shared).TypeIs (.ref C) "type" := ⟨_, cl, rfl⟩
  simp only [checkBuiltinCall, tc_kind, tc_split]
  repeat (any_goals (first
    | assumption
    | with_reducible refine wpAny_loadPart_at cl ?_
    | with_reducible refine wpAny_onRaise ?_
    | with_reducible refine wpAny_map ?_
    | wp_step))
/-- a class over an exception is called, with keywords or without -/
theorem callKw (FB : ExcBaseFacts B newId initId bmB) (okB : bm.contains (.type B) = true) (okA : bm.contains (.type "AttributeError") = false) (okN : bm.contains (.type "NameError") = false) {vs : List Value} {kw : List (Str × Value)} {fI : Addr}
    (cl : hh.get? C = some (excClassObj nn qn C N bs bm hdct sn sub ab col dd k0 k1 k2 k3 k5 newId)) (few : vs.length ≤ sizeLine)
    (fi : W.Looks (model pr wd) hh (typeLookup (.ref C) "__init__") (some (.ref fI))) (fb : ∀ me, W.Looks (model pr wd) hh (bindSpecial (.ref fI) me) (.ref fI, [me]))
    (fin : codeAny (model pr wd) (AA.under (.builtin "type.__call__" ⟨.ref C :: vs, kw⟩)) (.call (.ref fI) ⟨.ref (hh.objs.size + 1) :: vs, kw⟩) (W.InitBack (hh.objs.size + 1) RR)
      ⟨(hh.push (kdv_tup vs)).push (excO C hh.objs.size), gg, dr, tt, oss⟩) :
    codeAny (model pr wd) AA (.call (.ref C) ⟨vs, kw⟩) RR ⟨hh, gg, dr, tt, oss⟩ := by
  have f1 := tc_lookup
  have f2 := tc_bind (.ref C)
  have tyT : (⟨hh, gg, dr, tt, oss⟩ : Shared).TypeIs (.ref C) "type" := ⟨_, cl, rfl⟩
  refine codeAny_of_tree ?_
  show wpAny _ _ (callAny (.ref C) _) _ _ _
  repeat (any_goals (first
    | assumption
    | with_reducible refine wpAny_loadPart_at cl ?_
    | wp_step))
  refine ⟨rfl, ?_⟩
  refine codeAny_call_builtin_at (Code.quiet_builtin _ (by decide +kernel)) entry_typeCall (chkCall cl (typeKw FB okB okA okN cl few fi fb ?_))
  refine codeAny_mono fin fun r s' z => ?_
  rcases r with e | (v | _ | _ | _) <;> exact z
end low
end Bov


namespace Bov
open PySem PySem.W PySem.Spec PySem.Calls PyProof.Rows PySem.HandSPX

/-- an own class over exceptions, as the top has written it -/
structure EC (K : Frag) (C : Addr) (bm : List Value) : Prop where
  cls : ∃ (B newId initId : String) (bmB : List Value), ExcBaseFacts B newId initId bmB ∧ bm.contains (.type B) = true ∧
    ∃ nn qn N bs sn sub ab col dd k0 k1 k2 k3 k5, K.lookup C = some (excClassObj nn qn C N bs bm true sn sub ab col dd k0 k1 k2 k3 k5 newId)
  okA : bm.contains (.type "AttributeError") = false
  okN : bm.contains (.type "NameError") = false
  okO : bm.contains (.type "object") = true
  okE : bm.contains (.type "BaseException") = true
  pass : ∀ me, refuseLoop me "__setattr__" bm = pure ()
  sa : findIn K (.ref C) "__setattr__" = some (some (.builtin "object.__setattr__"))
  ga : findIn K (.ref C) "__getattribute__" = some (some (.builtin "BaseException.__getattribute__"))
  gg : findIn K (.ref C) "__getattr__" = some none
  ca : findIn K (.ref C) "__class__" = some (some (.builtin "object.__class__"))
  kC : keepIn K (.ref C) = true

section
variable {K : Frag} {C : Addr} {bm : List Value}
theorem EC.cd (T : EC K C bm) : ∃ cd, clsIn K C = some cd ∧ cd.mro = .ref C :: bm ∧ cd.hasDict = true := by
  obtain ⟨B, newId, initId, bmB, FB, okB, nn, qn, N, bs, sn, sub, ab, col, dd, k0, k1, k2, k3, k5, e⟩ := T.cls
  refine ⟨{ name := nn, bases := bs, mro := .ref C :: bm, ns := N, qualname := qn, hasDict := true, slotNames := sn, subclasses := sub, abstract := ab, collection := col, hasDel := false }, ?_, rfl, rfl⟩
  unfold clsIn
  rw [e]
theorem EC.mro (T : EC K C bm) (b : Value) : mroIn K C b = some ((Value.ref C :: bm).contains b) := by
  obtain ⟨cd, h1, h2, _⟩ := T.cd
  unfold mroIn
  rw [h1, Option.bind_some, h2]
  rfl
theorem EC.sub (T : EC K C bm) (b : Value) : subIn K (.ref C) b = some ((Value.ref C :: bm).contains b) := T.mro b
theorem EC.exC (T : EC K C bm) : subIn K (.ref C) (.type "BaseException") = some true := by
  rw [T.sub, List.contains_cons, T.okE, Bool.or_true]
theorem EC.obC (T : EC K C bm) : mroIn K C (.type "object") = some true := by
  rw [T.mro, List.contains_cons, T.okO, Bool.or_true]
theorem EC.tyC (T : EC K C bm) : typeIn K (.ref C) = some (.type "type") := by
  obtain ⟨B, newId, initId, bmB, FB, okB, nn, qn, N, bs, sn, sub, ab, col, dd, k0, k1, k2, k3, k5, e⟩ := T.cls
  show (K.lookup C).map (·.cls) = some (.type "type")
  rw [e]
  rfl
theorem EC.hdC (T : EC K C bm) : hasDictIn K C = true := by
  obtain ⟨cd, h1, _, h3⟩ := T.cd
  unfold hasDictIn
  rw [h1]
  exact h3
theorem EC.clC (T : EC K C bm) : isClsIn K C = true := by
  obtain ⟨cd, h1, _, h3⟩ := T.cd
  unfold isClsIn
  rw [h1]
  rfl
end

section low
variable {pr : Program} {wd : World} {M : Model} {AA : Around} {EE : Value → Shared → Prop} {RR : Result → Shared → Prop} {hh : Heap} {gg : Array GenState} {dr : Drawn} {tt : Nat} {oss : OsState}
variable {K : Frag} {C : Addr} {bm : List Value}
open Builtin Builtin.ObjectAttr
/-- a first attribute is stored into such an exception -/
theorem storeNew {name : Str} {tk : Tok} {v : Value} {x : Addr} {fv : Array Value} (T : EC K C bm) (XI : K.In hh) (hx : hh.get? x = some { cls := .ref C, data := .fields fv }) (no : findIn K (.ref C) name = some none)
    (fin : ∀ h' tk' dx, (∀ b o, b ≠ x → hh.get? b = some o → h'.get? b = some o) → hh.objs.size ≤ dx → dx ≠ x → h'.get? x = some { cls := .ref C, dict := some dx, data := .fields fv } →
      h'.Ns1 dx (fun y => if y = name then some v else none) → RR (.ok (.ret .none)) ⟨h', gg, dr, tk', oss⟩) :
    codeAny (model pr wd) AA (.call (.builtin "object.__setattr__") ⟨[.ref x, .str name tk, v], []⟩) RR ⟨hh, gg, dr, tt, oss⟩ := by
  have at0 : W.InstAt hh x { cls := .ref C, data := .fields fv } C none := ⟨hx, rfl, rfl, trivial⟩
  have S0 := F.store_object
  obtain ⟨cd, hcd, hm, hd⟩ := T.cd
  have apart : x ≠ hh.objs.size := Nat.ne_of_lt (Heap.lt_size hx)
  have isO : W.Looks (model pr wd) hh (isInstance (.ref x) (.type "object")) true := at0.type.andThen (W.looks_mroIn XI T.obC)
  refine codeAny_call_builtin S0.slot.plain S0.entry (@W.check_slot (model pr wd) _ _ ⟨hh, gg, dr, tt, oss⟩ "object.__setattr__" "object" "__setattr__"
    (.ref x) [.str name tk, v] [] _ S0.kind S0.split isO (S0.args (.ref x) (.str name tk) v) ?_)
  have lm : W.Looks (model pr wd) hh (mroOf (.ref C)) cd.mro := (W.looks_clsIn XI hcd).andThen .now
  have lt : W.Looks (model pr wd) hh (storeTaker? none) none := .now
  have lc : W.Looks (model pr wd) hh (classData C) cd := W.looks_clsIn XI hcd
  rw [W.osa_eq, refuse_eq]
  refine wpAny_bind (wpAny_bind (at0.type.at (wpAny_bind (lm.at ?_))))
  rw [hm, refuseLoop_ref, T.pass]
  refine wpAny_pure (wpAny_bind (at0.type.at (wpAny_bind ((W.looks_findIn XI no).at (wpAny_bind (lt.at ?_))))))
  show wpAny _ _ (storeInOwnDict (.ref x) (.ref C) (.str name tk) name v false) _ _ _
  obtain ⟨a1, a2, a3, a4, a5, a6, a7, a8, a9, a10, a11⟩ := cd
  dsimp only at hd
  subst hd
  unfold storeInOwnDict ownDictForStores
  repeat (first
    | with_reducible refine store_in_new ?_ ?_
    | with_reducible refine wpAny_loadPart_at hx ?_
    | with_reducible refine lc.at ?_
    | wp_step)
  · exact ⟨_, #[], _, (Heap.get?_update_ne _ _ _ _ apart.symm).trans (Heap.get?_push_at rfl rfl), rfl, fun e0 he => absurd he (by simp), fun _ => rfl⟩
  · intro h' tk' hn' hs
    have x1 : (hh.push { cls := .type "dict", data := .dict #[] }).get? x = some { cls := .ref C, data := .fields fv } := Heap.get?_push_of_some _ hx
    refine fin h' tk' hh.objs.size (fun b o hb ho => ?_) (Nat.le_refl _) apart.symm ?_ hn'
    · exact (hs.2 b (Nat.ne_of_lt (Heap.lt_size ho))).trans ((Heap.get?_update_ne _ _ _ _ hb).trans (Heap.get?_push_of_some _ ho))
    · exact (hs.2 x apart).trans (Heap.get?_update_self _ x1 rfl)
end low
end Bov


namespace L2.Bv
open PySem PySem.Spec PyProof.Rows Bov
theorem upd3 {H : Hp} {a dx : Addr} {o1 o2 o3 : HO} (n : dx ≠ a) : upd (upd (upd H a o1) dx o2) a o3 = upd (upd H dx o2) a o3 := by
  funext b
  by_cases e1 : b = a
  · rw [e1, upd_same, upd_same]
  · rw [upd_ne e1, upd_ne e1]
    by_cases e2 : b = dx
    · rw [e2, upd_same, upd_same]
    · rw [upd_ne e2, upd_ne e2, upd_ne e1]
section
variable {X : Cx} {pins : List (Addr × Obj)} {σ : St} {H : Hp} {s : Shared} {a C dx fI : Addr} {f : Str} {y : V} {u : Value} {bm : List Value}
/-- me.f = y, me an exception that has no dict yet -/
theorem stEx {Q : Unit → Shared → Prop} {E : Value → Shared → Prop} {A : Around} (T : EC X.K C bm) (no : PySem.W.findIn X.K (.ref C) f = some none) (I : Inv X pins σ H s) (ea : H a = some (exo a C none)) (ry : RelV y u)
    (fin : ∀ d s', H d = none → d ≠ a → Inv X pins σ (upd (upd H d (exd d [(f, y)])) a (exo a C (some d))) s' → Q () s') : wpAny (model X.prog X.w) A (setAttr (.ref a) f u) Q E s := by
  obtain ⟨t1, ho⟩ := exo_at I.hok ea
  obtain ⟨hp, g, dr, t, os⟩ := s
  refine PySem.W.set_plain I.kIn (ox := { cls := .ref C, dict := none, data := .fields #[.ref t1, .none, .none, .none, .bool false, .none] }) (od := none) ⟨ho, rfl, rfl, trivial⟩ T.sa ?_
  refine storeNew T I.kIn ho no fun h' tk' d kp dn dne hx hn => ?_
  have hnd : H d = none := I.hok.fresh dn
  have nd : ∀ {b : Addr} {o : Obj}, hp.get? b = some o → b ≠ d := fun {b o} q0 => Nat.ne_of_lt (Nat.lt_of_lt_of_le (Heap.lt_size q0) dn)
  have na : ∀ {b : Addr}, H b = none → b ≠ a := fun {b} n z0 => by
    rw [z0, ea] at n
    cases n
  have U : Un X.fs [] H (upd (upd H d (exd d [(f, y)])) a (exo a C (some d))) hp h' := {
    keep := fun b o q0 n _ _ => kp b o (na n) q0
    slot := fun b o q0 n _ _ => ⟨o.slots, kp b o (na n) q0⟩
    free := fun b o q0 n _ => by
      rw [upd_ne (na n), upd_ne (nd q0)]
      exact n
    there := fun b o q0 _ => by
      by_cases hb : b = a
      · rw [hb]
        exact ⟨_, hx⟩
      · exact ⟨o, kp b o hb q0⟩
    tups := fun b xs q0 => by
      rw [upd_ne (at_ne ea q0 exo_tup), upd_ne (ne_of_none q0 hnd)]
      exact q0
    frzs := fun b o v q0 => by
      rw [upd_ne (at_ne ea q0 exo_frz), upd_ne (ne_of_none q0 hnd)]
      exact q0
    tbls := fun b ps q0 => ⟨#[], by
      rw [upd_ne (at_ne ea q0 exo_tbl), upd_ne (ne_of_none q0 hnd), q0]
      simp⟩ }
  refine fin d _ hnd dne (I.un (t' := tk') U fun b o q0 => ?_)
  by_cases hb : b = a
  · subst hb
    rw [upd_same] at q0
    cases q0
    exact exo_ok hx
  · rw [upd_ne hb] at q0
    by_cases hd : b = d
    · subst hd
      rw [upd_same] at q0
      cases q0
      exact exd_ok hn (relO_put (fs := []) ry fun _ => True.intro)
    · rw [upd_ne hd] at q0
      refine (I.hok b o q0).stay (fun c v hc z0 => kp c v ?_ z0) (fun c hc => ?_) fun c xs hc => ?_
      · rcases hc with hc | hc
        · rw [hc]
          exact hb
        · exact at_ne ea hc exo_own
      · rw [upd_ne (at_ne ea hc exo_own), upd_ne (ne_of_none hc hnd)]
        exact hc
      · rw [upd_ne (at_ne ea hc exo_tup), upd_ne (ne_of_none hc hnd)]
        exact hc
/-- the statement me.f = e in such an __init__ -/
def tStEx (K : PySem.W.Frag) (f : Str) (to te : TE) : TS := fun D σ H => te σ H fun y H1 => to σ H1 fun x H2 => ∃ (a C : Addr) (bm : List Value), x = .ref a ∧ EC K C bm ∧ PySem.W.findIn K (.ref C) f = some none ∧
  H2 a = some (exo a C none) ∧ ∀ d, H2 d = none → d ≠ a → D.nx σ (upd (upd H2 d (exd d [(f, y)])) a (exo a C (some d)))
theorem psStEx {o e : Expr} {to te : TE} {p' pos : Pos} (ho : PE X o to) (he : PE X e te) (hs : swapsWith e (some (.Attribute o f p')) pos.line X.env = pure false := by rfl) : PS X (.Assign [.Attribute o f p'] e pos) (tStEx X.K f to te) := by
  refine ⟨fun pins s σ H D I h => ?_⟩
  refine plainObj_wpAny_Assign_Attribute (thn (he.run pins s σ H _ I h) fun v s1 ⟨y, H1, I1, r1, q1⟩ => thn (ho.run pins s1 σ H1 _ I1 q1) fun u s2 ⟨x, H2, I2, r2, a, C, bm, ex, T, no, ea, q⟩ => ?_) hs
  subst ex
  obtain rfl : u = Value.ref a := r2
  exact stEx T no I2 ea r1 fun d s' n ne J => ⟨σ, _, J, q d n ne⟩
/-- what such an __init__ promises -/
def spIni (C : Addr) (f : Str) : Sp := fun vs H Q _ => ∃ (a : Addr) (y : V), vs = [.ref a, y] ∧ H a = some (exo a C none) ∧ ∀ d, H d = none → d ≠ a → Q .non (upd (upd H d (exd d [(f, y)])) a (exo a C (some d)))
theorem okIni {P : Program} {w : World} {K : PySem.W.Frag} {mg : Str → Option Value} {base : Heap} {C fI : Addr} {fd : FuncData} {qual f : Str} {st : Stmt} {bm : List Value} {p1 p2 p3 p4 : Pos} (F : Fun K "__init__" qual st fI fd)
    (T : EC K C bm) (no : PySem.W.findIn K (.ref C) f = some none) (sc : FnScope ["self", f] ["self", f] (defScope st)) (hb : defBody st = [.Assign [.Attribute (.Name "self" p1) f p2] (.Name f p3) p4])
    (hd : (f == ("__debug__" : Str)) = false) (hc : (f == ("__classdict__" : Str)) = false)
    (v0 : Vis (defScope st) "self") (v1 : Vis (defScope st) f) (kd : (defScope st).kind = .function) : FnOk P w K mg base CX0 1 fI fd ["self", f] (spIni C f) := by
  refine F.ok sc (fun vs H Q E h => ?_) (fun cdv A outer s H vs Q E hr h => ?_)
  · obtain ⟨a, y, rfl, _⟩ := h
    rfl
  · obtain ⟨a, y, rfl, ea, q⟩ := h
    rw [hb]
    refine ⟨_, pss_one (psStEx (pv 0 rfl v0) (pv 1 rfl v1 hd hc)), ?_⟩
    exact ⟨_, rfl, _, rfl, a, C, bm, rfl, T, no, ea, fun d n ne => q d n ne⟩
/-- an exception of such a class is made -/
theorem runEx {Q : VK} {fd : FuncData} {k : Nat} {us : List Value} {kw : List (Str × Value)} (T : EC X.K C bm) (iC : PySem.W.findIn X.K (.ref C) "__init__" = some (some (.ref fI))) (tI : PySem.W.typeIn X.K (.ref fI) = some (.type "function"))
    (F1 : FnOk X.prog X.w X.K X.mg X.base CX0 k fI fd ["self", f] (spIni C f)) (hr : Room (k + 1) X.A) (hb : ∀ (s : Shared) (me : Value), BindsTo s fd ⟨me :: us, kw⟩ [("self", me), (f, u)]) (few : us.length ≤ sizeLine)
    (I : Inv X pins σ H s) (ry : RelV y u) (q : ∀ a d, H a = none → H d = none → d ≠ a → Q (.ref a) (upd (upd H d (exd d [(f, y)])) a (exo a C (some d)))) :
    wpAny (model X.prog X.w) X.A (call (.ref C) us kw) (EP X pins σ Q) X.xe s := by
  obtain ⟨B, newId, initId, bmB, FB, okB, nn, qn, N, bs, sn, sub, ab, col, dd, k0, k1, k2, k3, k5, hC⟩ := T.cls
  obtain ⟨hp, g, dr, tk, os⟩ := s
  have hsz : hp.objs.size ≤ hp.objs.size + 1 := Nat.le_succ _
  have hn : H (hp.objs.size + 1) = none := I.hok.fresh hsz
  have keep : ∀ b o, hp.get? b = some o → ((hp.push (PySem.W.kdv_tup us)).push (PySem.HandSPX.excO C hp.objs.size)).get? b = some o := fun b o e0 => Heap.get?_push_of_some _ (Heap.get?_push_of_some _ e0)
  have there : ((hp.push (PySem.W.kdv_tup us)).push (PySem.HandSPX.excO C hp.objs.size)).get? (hp.objs.size + 1) = some (PySem.HandSPX.excO C hp.objs.size) := by heap_get
  have I2 : Inv X pins σ (upd H (hp.objs.size + 1) (exo (hp.objs.size + 1) C none)) ⟨(hp.push (PySem.W.kdv_tup us)).push (PySem.HandSPX.excO C hp.objs.size), g, dr, tk, os⟩ :=
    I.laid (t' := tk) keep hsz (exo_ok there)
  have r2 : Vals [V.ref (hp.objs.size + 1), y] [Value.ref (hp.objs.size + 1), u] := .cons rfl (.cons ry .nil)
  have hq : spIni C f [V.ref (hp.objs.size + 1), y] (upd H (hp.objs.size + 1) (exo (hp.objs.size + 1) C none)) (fun v H3 => v = .non ∧ Q (.ref (hp.objs.size + 1)) H3) E0 := by
    refine ⟨_, y, rfl, upd_same, fun d n ne => ⟨rfl, ?_⟩⟩
    rw [upd3 ne]
    rw [upd_ne ne] at n
    exact q _ d hn n ne
  refine wpAny_call (callKw FB okB T.okA T.okN (I.kIn _ _ hC) few (PySem.W.looks_findIn I.kIn iC) (fun me => PySem.W.bind_fn I.kIn me tI) ?_)
  refine codeAny_mono (F1.run _ X.stack _ _ ⟨Value.ref (hp.objs.size + 1) :: us, kw⟩ [Value.ref (hp.objs.size + 1), u] _ _ E0 (hr.make C us kw) (I2.env0.make C us kw) (hb _ _) r2 hq) fun r s' z => ?_
  cases r with
  | error er => exact pass0 (X := X) pins σ _ _ er s' I2 z
  | ok fl =>
    cases fl with
    | ret v =>
      obtain ⟨v', H', I3, rv, ev, q3⟩ := I2.after z
      subst ev
      exact ⟨rv, ⟨V.ref (hp.objs.size + 1), H', I3, rfl, q3⟩⟩
    | next => exact False.elim z
    | brk => exact False.elim z
    | cont => exact False.elim z
/-- C(e), C(f=e) -/
def tEx (C : Addr) (f : Str) (te : TE) : TE := fun σ H Q => te σ H fun y H1 => ∀ a d, H1 a = none → H1 d = none → d ≠ a → Q (.ref a) (upd (upd H1 d (exd d [(f, y)])) a (exo a C (some d)))
/-- what such a class's call wants, told once -/
structure ExM (P : Program) (w : World) (K : PySem.W.Frag) (mg : Str → Option Value) (base : Heap) (C : Addr) (f : Str) (bm : List Value) (x : Str) : Prop where
  ec : EC K C bm
  no : PySem.W.findIn K (.ref C) f = some none
  gC : mg x = some (.ref C)
  ini : ∃ (fI : Addr) (fd : FuncData), PySem.W.findIn K (.ref C) "__init__" = some (some (.ref fI)) ∧ PySem.W.typeIn K (.ref fI) = some (.type "function") ∧ FnOk P w K mg base CX0 1 fI fd ["self", f] (spIni C f) ∧
    (∀ (s : Shared) (me u : Value), BindsTo s fd ⟨[me, u], []⟩ [("self", me), (f, u)]) ∧ (∀ (s : Shared) (me u : Value), BindsTo s fd ⟨[me], [(f, u)]⟩ [("self", me), (f, u)])
theorem peEx {x : Str} {e : Expr} {te : TE} {p pos : Pos} (M : ExM X.prog X.w X.K X.mg X.base C f bm x) (hr : Room 2 X.A) (he : PE X e te) (hg : Gl X x := by rfl) (hdb : (x == ("__debug__" : Str)) = false := by decide)
    (hs : starEach [e] X.env = (false, eval e X.env) :: starEach [] X.env := by rfl) : PE X (.Call (.Name x p) [e] [] pos) (tEx C f te) := by
  refine ⟨fun pins s σ H Q I h => ?_⟩
  obtain ⟨fI, fd, iC, tI, F1, b1, b2⟩ := M.ini
  refine wpAny_Call_Name_kw (ld_glob I hg M.gC ?_ hdb)
  refine PySem.W.callWith_K (h₀ := X.base) I.ok.mod.kin M.ec.kC ?_ hs (by rfl)
  rw [hs]
  show wpAny _ _ (spliced ((false, eval e X.env) :: backTo pos (starEach [] X.env))) _ _ s
  refine Calls.spliced_cons (thn (he.run pins s σ H _ I h) fun u s1 ⟨y, H1, I1, ry, q⟩ => ?_)
  refine Calls.spliced_nil ⟨I1.kIn, ?_⟩
  show wpAny _ _ (call (.ref C) [u]) _ _ _
  exact runEx M.ec iC tI F1 hr (fun s me => b1 s me u) (by show 1 ≤ sizeLine; rw [sizeLine_eq]; omega) I1 ry q
theorem peExK {x : Str} {e : Expr} {te : TE} {p pos kp : Pos} (M : ExM X.prog X.w X.K X.mg X.base C f bm x) (hr : Room 2 X.A) (he : PE X e te) (hg : Gl X x := by rfl) (hdb : (x == ("__debug__" : Str)) = false := by decide)
    (hall : (backToKw pos (keywordEach [⟨some f, e, kp⟩] X.env)).all (·.1.isSome) = true := by rfl) (hks : (backToKw pos (keywordEach [⟨some f, e, kp⟩] X.env)).filterMap (·.1) = [f] := by rfl)
    (hpl : ((backTo pos (starEach [] X.env)).any (·.1) || (backToKw pos (keywordEach [⟨some f, e, kp⟩] X.env)).any (·.1.isNone)) = false := by rfl) : PE X (.Call (.Name x p) [] [⟨some f, e, kp⟩] pos) (tEx C f te) := by
  refine ⟨fun pins s σ H Q I h => ?_⟩
  obtain ⟨fI, fd, iC, tI, F1, b1, b2⟩ := M.ini
  refine wpAny_Call_Name_kw (ld_glob I hg M.gC ?_ hdb)
  refine PySem.W.callWith_KW0 (h₀ := X.base) I.ok.mod.kin M.ec.kC hall ?_ hpl
  let R : List V → Hp → Prop := fun zs H1 => match zs with
    | [y] => ∀ a d, H1 a = none → H1 d = none → d ≠ a → Q (.ref a) (upd (upd H1 d (exd d [(f, y)])) a (exo a C (some d)))
    | _ => False
  refine thn ((pk_cons (nm := some f) (kpos := kp) he pk_nil).run pos pins s σ H R I h) fun ws s2 ⟨zs, H2, I2, rz, q2⟩ => ⟨I2.kIn, ?_⟩
  rw [hks]
  cases rz with
  | nil => exact False.elim q2
  | cons r1 r0 =>
    cases r0 with
    | nil => exact runEx M.ec iC tI F1 hr (fun s me => b2 s me _) (Nat.zero_le _) I2 r1 q2
    | cons _ _ => exact False.elim q2
end
end L2.Bv


namespace L2.Bv
open PySem PySem.Spec PyProof.Rows Bov
section
variable {X : Cx} {f : Str}
/-- what stands at a: an exception of the class at C, with fields or without -/
def ExAt (H : Hp) (a C : Addr) (d : Option Addr) : Prop := H a = some (exo a C d) ∧ ∀ dx, d = some dx → ∃ fs, H dx = some (exd dx fs)
theorem ExAt.inst {pins : List (Addr × Obj)} {σ : St} {H : Hp} {s : Shared} {a C : Addr} {d : Option Addr} (I : Inv X pins σ H s) (e : ExAt H a C d) : ∃ ox od, PySem.W.InstAt s.heap a ox C od := by
  obtain ⟨t1, ho⟩ := exo_at I.hok e.1
  cases d with
  | none => exact ⟨_, none, ho, rfl, rfl, trivial⟩
  | some dx =>
    obtain ⟨fs, hf⟩ := e.2 dx rfl
    obtain ⟨mA, hns, rel⟩ := exd_at I.hok hf
    obtain ⟨od, h1, _⟩ := lookIn_ns hns
    exact ⟨_, some od, ho, rfl, rfl, h1⟩
/-- isinstance(e, c) of such an exception -/
def rIsEx (K : PySem.W.Frag) : List V → Hp → VK → Prop := fun xs H Q => ∃ (a C : Addr) (bm : List Value) (d : Option Addr) (c : V) (cv : Value) (b : Bool), xs = [.ref a, c] ∧ EC K C bm ∧ ExAt H a C d ∧ ClsV c cv ∧
  PySem.W.kitOne K (.ref C) cv = some b ∧ Q (.bl b) H
theorem callIsEx (hn : PySem.W.specialIn X.K (.builtin "object.__class__") "__get__" = some (some (.builtin "getset_descriptor.__get__"))) (ht : PySem.W.takesIn X.K (.builtin "object.__class__") = some true) :
    CallR X (.builtin "isinstance") (rIsEx X.K) := by
  intro pins s σ H xs us Q I r h
  obtain ⟨a, C, bm, d, c, cv, b, rfl, T, ea, k, e, q⟩ := h
  obtain ⟨u1, u2, rfl, r1, r2⟩ := vals2 r
  have e2 := k.eq r2
  subst e2
  obtain rfl : u1 = Value.ref a := r1
  obtain ⟨ox, od, J⟩ := ea.inst I
  exact PySem.W.kia_one (PySem.W.kitx_exc T.clC T.ga T.gg T.exC T.ca hn ht T.obC) I.kIn J e (fun z => nomatch z) fun tk => ⟨.bl b, H, I.tok tk, rfl, q⟩
/-- e.f, e such an exception -/
def tFld (K : PySem.W.Frag) (f : Str) (te : TE) : TE := fun σ H Q => te σ H fun x H1 => ∃ (a C dx : Addr) (bm : List Value) (fs : List (Str × V)) (v : V), x = .ref a ∧ EC K C bm ∧ PySem.W.findIn K (.ref C) f = some none ∧
  H1 a = some (exo a C (some dx)) ∧ H1 dx = some (exd dx fs) ∧ fs.lookup f = some v ∧ Q v H1
theorem peFld {e : Expr} {te : TE} {pos : Pos} (he : PE X e te) (hb : attributeBase e f X.env (eval e X.env) = eval e X.env := by rfl) : PE X (.Attribute e f pos) (tFld X.K f te) := by
  refine ⟨fun pins s σ H Q I h => ?_⟩
  refine attr_of hb (thn (he.run pins s σ H _ I h) fun u s1 hh => ?_)
  obtain ⟨x, H1, I1, rx, a, C, dx, bm, fs, v, ex, T, no, ea, ed, l, q⟩ := hh
  subst ex
  obtain rfl : u = Value.ref a := rx
  obtain ⟨t1, ho⟩ := exo_at I1.hok ea
  obtain ⟨mA, hns, rel⟩ := exd_at I1.hok ed
  obtain ⟨od, h1, hl⟩ := lookIn_ns hns
  obtain ⟨w, hw, rw'⟩ := RelO.some_of (v := v) (o := mA f) (by
    rw [← l]
    exact rel f)
  have J : PySem.W.InstAt s1.heap a { cls := .ref C, dict := some dx, data := .fields #[.ref t1, .none, .none, .none, .bool false, .none] } C (some od) := ⟨ho, rfl, rfl, h1⟩
  refine HandSPX.exc_get I1.kIn J T.ga T.gg T.exC (PySem.W.findObj_own T.hdC no rfl ?_) (handed_of rw') ⟨v, H1, I1.tok _, rw', q⟩
  rw [hl, hw]
/-- C(), a class without an __init__ of its own -/
theorem peEx0 {C : Addr} {bmB : List Value} {B newId initId : String} {x : Str} {p pos : Pos} (FB : ExcBaseFacts B newId initId bmB) (q : PySem.W.excIn X.K C bmB newId = true) (gC : X.mg x = some (.ref C)) (kC : PySem.W.keepIn X.K (.ref C) = true) (hg : Gl X x := by rfl)
    (hdb : (x == ("__debug__" : Str)) = false := by decide) : PE X (.Call (.Name x p) [] [] pos) (fun _ H Q => ∀ a, H a = none → Q (.ref a) (upd H a (exo a C none))) := by
  refine ⟨fun pins s σ H Q I h => ?_⟩
  refine wpAny_Call_Name_kw (ld_glob I hg gC ?_ hdb)
  refine PySem.W.callWith_K0 I.kIn kC ?_
  show wpAny _ _ (call (.ref C) []) _ _ _
  obtain ⟨bm, N, nm, qn, bs, hdct, sn, sub, ab, col, dd, k0, k1, k2, k3, k5, mN, hC, hN, hni, T⟩ := exc_obj I.kIn q
  refine wpAny_call_exc_subT FB T hC hN hni (fun h' a hm => ?_) (Nat.zero_le _)
  have hn : H a = none := I.hok.gone hm.new
  obtain ⟨t, ht, _, _⟩ := hm.there
  exact ⟨.ref a, upd H a (exo a C none), I.laidN hm.keeps hm.new hn (exo_ok ht), rfl, h a hn⟩
end
end L2.Bv


namespace L2.Bv
open PySem PySem.Spec PyProof.Rows Bov
/-! ### repr of data: no guard of a repr around -/
section
variable {X : Cx}
def rRepr (K : PySem.W.Frag) : List V → Hp → VK → Prop := fun xs H Q => ∃ (x : V) (d : PyData), xs = [x] ∧ Dp K H x d ∧ d.showable = true ∧ d.hasDict = false ∧ d.depth ≤ 60 ∧ d.shown.length ≤ sizeLine ∧ Q (.str d.shown) H
theorem callRepr (hg : X.A.guards = some []) (hu : X.A.units + 64 < cLine) : CallR X (.builtin "repr") (rRepr X.K) := by
  intro pins s σ H xs us Q I r h
  obtain ⟨x, d, rfl, hd, sh, nd, dp, sz, q⟩ := h
  obtain ⟨u, rfl, rx⟩ := vals1 r
  obtain ⟨as, rd⟩ := Dp.reads I d x u hd rx
  have fin : ∀ h' v tk, (∀ b o, s.heap.get? b = some o → h'.get? b = some o) → EP X pins σ Q (.str d.shown v) { s with heap := h', toks := tk } := fun h' v tk kp => ⟨.str d.shown, H, I.kept kp, ⟨v, rfl⟩, q⟩
  cases rd with
  | none =>
    refine PySem.P.repr_of_none ?_
    have z := fin s.heap s.toks (s.toks + 1) fun _ _ e => e
    rwa [PyData.shown_none] at z
  | bool b =>
    refine PySem.P.repr_of_bool ?_
    have z := fin s.heap s.toks (s.toks + 1) fun _ _ e => e
    rwa [PyData.shown_bool] at z
  | int i t =>
    refine PySem.P.repr_of_int (by simpa [PyData.showable] using sh) ?_
    have z := fin s.heap s.toks (s.toks + 1) fun _ _ e => e
    rwa [PyData.shown_int] at z
  | str y t =>
    refine PySem.P.repr_of_str (hsz := by rwa [PyData.shown_str] at sz) ?_
    have z := fin s.heap s.toks (s.toks + 1) fun _ _ e => e
    rwa [PyData.shown_str] at z
  | list h1 h2 h3 h4 => exact repr_of_reads' (.list h1 h2 h3 h4) sh (fun z => by rw [nd] at z; cases z) hg (by omega) (fun _ _ e => e) fin sz
  | tuple h1 h2 h3 h4 => exact repr_of_reads' (.tuple h1 h2 h3 h4) sh (fun z => by rw [nd] at z; cases z) hg (by omega) (fun _ _ e => e) fin sz
  | dict h1 h2 h3 h4 h5 => cases nd
end
/-! ### defs that are called where no repr runs -/
structure FnG (P : Program) (w : World) (K : PySem.W.Frag) (mg : Str → Option Value) (base : Heap) (CX : CXT) (k : Nat) (f : Addr) (fd : FuncData) (ps : List Str) (sp : Sp) : Prop where
  len : ∀ vs H Q E, sp vs H Q E → vs.length = ps.length
  run : ∀ (A : Around) (outer : List Env) (s : Shared) (H : Hp) (args : Args) (us : List Value) (vs : List V) (Q : VK) (E : XK), Room k A → A.guards = some [] →
    Env0 P w K mg base A outer s H → BindsTo s fd args (ps.zip us) → Vals vs us → sp vs H Q E → codeAny (model P w) A (.call (.ref f) args) (CR CX outer P w H s Q E) s
section
variable {P : Program} {w : World} {K : PySem.W.Frag} {mg : Str → Option Value} {base : Heap}
theorem FnG.of {CX : CXT} {k : Nat} {f : Addr} {fd : FuncData} {ps : List Str} {sp : Sp} (F : FnOk P w K mg base CX k f fd ps sp) : FnG P w K mg base CX k f fd ps sp :=
  ⟨F.len, fun A outer s H args us vs Q E hr _ he hb hv hs => F.run A outer s H args us vs Q E hr he hb hv hs⟩
/-- a def by its body, where no repr runs around -/
theorem okG {x qual : Str} {st : Stmt} {f : Addr} {fd : FuncData} {N ps : List Str} {k : Nat} {sp : Sp} (F : Fun K x qual st f fd) (S : FnScope N ps (defScope st)) (len : ∀ vs H Q E, sp vs H Q E → vs.length = ps.length)
    (body : ∀ (cdv : Value) (A : Around) (outer : List Env) (s : Shared) (H : Hp) (vs : List V) (Q : VK) (E : XK), Room k (A.deeper (envOfC qual (defScope st) s.heap.objs.size f cdv)) → A.guards = some [] → sp vs H Q E →
      ∃ t, PSs (cxOf CX0 P w K mg base N qual (defScope st) f cdv A outer s H E).nox (defBody st) t ∧ t { nx := fun _ H' => Q .non H', rt := Q } (start N vs) H) : FnG P w K mg base CX0 (k + 1) f fd ps sp := by
  obtain ⟨oc, od, kV, doc, pm, an, cdv, ct, osl, rfl, lk, hcd⟩ := F.ex
  refine ⟨len, fun A outer s H args us vs Q E hr hgd e0 hb r hsp => ?_⟩
  have same := len _ _ _ _ hsp
  have KX : K.In s.heap := e0.mod.kin.keeps fun b o e => (e0.bs b o e).1
  have lim : s.heap.NoLimit := e0.mod.nolimit.keeps fun b o e => (e0.bs b o e).1
  have kinds : ∀ y ∈ ps.zip us, (defScope st).names.lookup y.1 = some .local ∨
      ((defScope st).names.lookup y.1 = some .cell ∧ ((cellsFrom (s.heap.objs.size + 1) (defScope st).names []).lookup y.1).isSome = true) := fun ⟨n, v⟩ hy => by
    rcases S.par n (List.of_mem_zip hy).1 with z | z
    · exact .inl z
    · exact .inr ⟨z, PySem.W.cellsFrom_some _ _ _ (.inl z)⟩
  refine codeAny_call_function hr.depth (KX _ _ lk) rfl S.co S.gen rfl (PySem.W.codeRec_of KX hcd) (hb _ _ _ _ ?_)
  refine wpAny_newFunctionEnv_cells S.kind kinds fun env he s1 x => ?_
  subst he
  refine ⟨lim.keeps x.toInCall.keep, codeAny_func ?_⟩
  obtain ⟨t, ht, hq⟩ := body cdv A outer s H vs Q E (hr.deeper _) hgd hsp
  have I : Inv (cxOf CX0 P w K mg base N qual (defScope st) f cdv A outer s H E) [] (start N vs) H s1 := inv_start S hr.hd e0 same r x
  refine wpAny_mono (ht.nox.run [] s1 (start N vs) H _ I hq) (fun fl s' hs => ?_) fun e s' hs => hs
  cases fl with
  | ret u =>
    obtain ⟨v, σ', H', J, rv, z⟩ := hs
    exact ⟨v, H', J.os, J.bare, J.base, J.hok, rv, z⟩
  | next =>
    obtain ⟨σ', H', J, z⟩ := hs
    exact ⟨V.non, H', J.os, J.bare, J.base, J.hok, rfl, z⟩
  | brk =>
    obtain ⟨_, _, _, z⟩ := hs
    exact False.elim z
  | cont =>
    obtain ⟨_, _, _, z⟩ := hs
    exact False.elim z
end
section
variable {X : Cx} {CX : CXT} {k : Nat} {f : Addr} {fd : FuncData} {ps : List Str} {sp : Sp} {dvs : List V} {ds : List Value} {E : XK} {x : Str} {p pos : Pos} {e : Expr} {es : List Expr} {t : TA}
theorem peCallG (F : FnG X.prog X.w X.K X.mg X.base CX k f fd ps sp) (hr : Room k X.A) (hgd : X.A.guards = some []) (hg : Gl X x) (hm : X.mg x = some (.ref f)) (hk : PySem.W.keepIn X.K (.ref f) = true) (hb : Binds X.K fd ps ds) (hd : Vals dvs ds) (hx : Passes CX X E)
    (ha : PA X (e :: es) t) (hdb : (x == ("__debug__" : Str)) = false := by decide) (he : starEach (e :: es) X.env = (false, eval e X.env) :: starEach es X.env := by rfl) (hpl : (backTo pos (starEach es X.env)).any (·.1) = false := by rfl) :
    PE X (.Call (.Name x p) (e :: es) [] pos) (tCall sp dvs E t) := by
  refine ⟨fun pins s σ H Q I h => ?_⟩
  refine wpAny_Call_Name_kw (ld_glob I hg hm ?_ hdb)
  refine PySem.W.callWith_K (h₀ := X.base) I.ok.mod.kin hk (thn (ha.run pos pins s σ H _ I h) fun us s1 ⟨vs, H1, I1, r, q⟩ => ⟨I1.kIn, ?_⟩) he hpl
  have r2 : Vals (vs ++ dvs) (us ++ ds) := r.append hd
  have same : (us ++ ds).length = ps.length := by
    rw [← r2.length]
    exact F.len _ _ _ _ q
  refine wpAny_call (codeAny_mono (F.run X.A X.stack s1 H1 ⟨us, []⟩ (us ++ ds) (vs ++ dvs) Q E hr hgd I1.env0 (hb s1 us I1.kIn same) r2 q) fun r s' z => ?_)
  cases r with
  | error er => exact hx pins σ H1 s1 er s' I1 z
  | ok fl =>
    cases fl with
    | ret v => exact I1.after z
    | next => exact False.elim z
    | brk => exact False.elim z
    | cont => exact False.elim z
end
/-! ### the law's own call, where no repr runs around -/
theorem lawCallG {P : Program} {w : World} {K : PySem.W.Frag} {mg mb : Str → Option Value} {k : Nat} {fa a : Addr} {fd : FuncData} {x : Str} {sp : Sp} {s₁ : Shared} {vs : List Value} {ns : List Int}
    (KX : K.In s₁.heap) (hns : s₁.heap.Ns mainGlobals mg) (hb : s₁.heap.Ns builtinsNs mb) (hbb : ∀ x : Str, x ≠ "__name__" → mb x = bootBuiltins x) (hlim : s₁.heap.NoLimit) (hg : s₁.gens = #[])
    (ha : s₁.heap.get? a = some { cls := .type "list", data := .seq vs.toArray }) (hi : IntsAre vs ns) (hl : ns.length ≤ sizeLine) (hr : Room k callerA)
    (F : ∀ base : Heap, K.In base → base.Ns mainGlobals mg → FnG P w K mg base CX0 k fa fd [x] sp) (bind : ∀ (s : Shared) (u : Value), BindsTo s fd ⟨[u], []⟩ [(x, u)])
    (hsp : ∀ H : Hp, Only H → SqL K H a (ns.map V.int) → sp [.ref a] H (fun v _ => v = .bl true) fun _ _ _ => False) :
    codeAny (model P w) callerA (.call (.ref fa) ⟨[.ref a], []⟩) (fun r s' => r = .ok (.ret (.bool true)) ∧ OldK s₁.heap s'.heap ∧ s'.os = s₁.os ∧ AllBare s'.gens) s₁ := by
  have rv := vals_ints hi
  have lenV := hi.length
  have go : ∀ H : Hp, Only H → SqL K H a (ns.map V.int) → HOk P w H s₁.heap → (∀ b, H b ≠ none → b = a) → (H a ≠ none → K.lookup a = none) →
      codeAny (model P w) callerA (.call (.ref fa) ⟨[.ref a], []⟩) (fun r s' => r = .ok (.ret (.bool true)) ∧ OldK s₁.heap s'.heap ∧ s'.os = s₁.os ∧ AllBare s'.gens) s₁ := by
    intro H only hS hok one hK
    have isA : ∀ {b : Addr} {u : HO}, H b = some u → b = a := fun {b u} q0 => one b (by
      rw [q0]
      exact fun z => nomatch z)
    have dictFree : ∀ {b : Addr} {o : Obj} {es : Array DictEntry} {ep : Nat}, s₁.heap.get? b = some o → o.data = .dict es ep → H b = none := fun {b o es ep} e0 d0 => by
      cases q0 : H b with
      | none => rfl
      | some u =>
        have eb := isA q0
        subst eb
        rw [ha] at e0
        cases e0
        have d1 : Data.seq vs.toArray _ = Data.dict es ep := d0
        cases d1
    have nsT : ∀ {b : Addr} {m : Str → Option Value}, s₁.heap.Ns b m → (hidT s₁.heap H).Ns b m := fun {b m} ⟨o, es, ep, e0, d0, r0⟩ => ⟨o, es, ep, hidT_get e0 (dictFree e0 d0), d0, r0⟩
    have inT : K.In (hidT s₁.heap H) := fun b o e0 => hidT_get (KX b o e0) (by
      cases q0 : H b with
      | none => rfl
      | some u =>
        have eb := isA q0
        subst eb
        rw [hK (by rw [q0]; exact fun z => nomatch z)] at e0
        cases e0)
    have md : Mod K mg (hidT s₁.heap H) := ⟨inT, nsT hns, ⟨mb, nsT hb, hbb⟩, let ⟨mc, z1, z2⟩ := hlim; ⟨mc, nsT z1, z2⟩⟩
    have e0 : Env0 P w K mg (hidT s₁.heap H) callerA [] s₁ H := ⟨rfl, md, fun b o z => of_hidT z, Nat.le_of_eq (hidT_size _ _), trivial, fun b z => absurd (show b ∈ ([] : List Addr) from z) (by simp), hok, .of_eq hg⟩
    refine codeAny_mono ((F _ inT (nsT hns)).run callerA [] s₁ H ⟨[.ref a], []⟩ [.ref a] [.ref a] _ _ hr rfl e0 (bind s₁ (.ref a)) (.cons rfl .nil) (hsp H only hS)) fun r s' z => ?_
    cases r with
    | error e => exact False.elim z
    | ok fl =>
      cases fl with
      | next => exact False.elim z
      | brk => exact False.elim z
      | cont => exact False.elim z
      | ret u =>
        obtain ⟨v, H', os, bare, un, hok', r', q⟩ := z
        have q' : v = .bl true := q
        subst q'
        obtain rfl : u = Value.bool true := r'
        refine ⟨rfl, OldK.of_keep fun b o e1 => ?_, os, bare⟩
        cases q0 : H b with
        | none => exact un.keep b o e1 q0 (fun z => absurd (show b ∈ ([] : List Addr) from z) (by simp)) (by simp)
        | some u =>
          rcases only b with z | ⟨ob, xs, z⟩
          · rw [q0] at z
            cases z
          · have z2 := un.frzs b ob _ z
            obtain ⟨y1, _⟩ := hok b _ z
            obtain ⟨y2, _⟩ := hok' b _ z2
            rw [e1] at y1
            cases y1
            exact y2
  cases hk : K.lookup a with
  | some o =>
    have e := KX a o hk
    rw [ha] at e
    cases e
    refine go (fun _ => none) (fun _ => .inl rfl) ?_ (fun b u z => ?_) (fun b z => absurd rfl z) fun z => absurd rfl z
    · exact .inr ⟨_, vs.toArray, _, hk, rfl, rfl, rfl, by rw [List.size_toArray, lenV]; exact hl, by simpa using rv⟩
    · have z' : (none : Option HO) = some u := z
      cases z'
  | none =>
    let H0 : Hp := fun b => if b = a then some (.frz { cls := .type "list", data := .seq vs.toArray } (.lst (ns.map V.int))) else none
    have at_a : H0 a = some (.frz { cls := .type "list", data := .seq vs.toArray } (.lst (ns.map V.int))) := if_pos rfl
    have off_a : ∀ b, b ≠ a → H0 b = none := fun b z => if_neg z
    refine go H0 (fun b => ?_) (.inl (.inr ⟨_, at_a⟩)) (fun b u z => ?_) (fun b z => ?_) fun _ => hk
    · by_cases eb : b = a
      · rw [eb]
        exact .inr ⟨_, _, at_a⟩
      · exact .inl (off_a b eb)
    · by_cases eb : b = a
      · subst eb
        rw [at_a] at z
        cases z
        exact ⟨ha, by rw [List.length_map]; exact hl, vs, _, rv, ha⟩
      · rw [off_a b eb] at z
        cases z
    · by_cases eb : b = a
      · exact eb
      · exact absurd (off_a b eb) z
theorem walkG {l : PySem.W.OpenLaw} {n k : Nat} {q : Program} {loose : List Str} {XP : (Str → Option Value) → Heap → Prop} {YP : World → Heap → Prop} {d : DefRec} {K : Params → PySem.W.Frag} {sp : World → Sp} {x : Str}
    (hn : l.most = some n) (hn2 : n ≤ sizeLine) (hdf : d.params.defaults = []) (hr : Room k callerA) (hY : ∀ (w : World) (h : Heap), YP w h → (K w.params).In h)
    (F : ∀ (w : World) (mg : Str → Option Value) (fa : Addr) (h : Heap), (K w.params).In h → h.Ns mainGlobals mg → mg d.name = some (.ref fa) →
      ∃ fd : FuncData, (∀ (s : Shared) (u : Value), BindsTo s fd ⟨[u], []⟩ [(x, u)]) ∧ ∀ base : Heap, (K w.params).In base → base.Ns mainGlobals mg → FnG l.prog w (K w.params) mg base CX0 k fa fd [x] (sp w))
    (hsp : ∀ (w : World) (H : Hp) (a : Addr) (ns : List Int), ns.length ≤ n → Only H → SqL (K w.params) H a (ns.map V.int) → sp w [.ref a] H (fun v _ => v = .bl true) fun _ _ _ => False) :
    PySem.W.WalkO q loose XP YP l.row.toRowW d [] (fun f vs => PySem.call f vs) := by
  refine Att.attach_call hn hdf fun w s₀ s₁ mg mb fa o pm cd doc a vs ns G Y ho hd hcd hmg hobj hints hlen hg => ?_
  have KX := hY w _ Y
  obtain ⟨fd, hb, hF⟩ := F w mg fa _ KX G.T.g hmg
  exact lawCallG KX G.T.g G.T.b G.T.builtins G.T.nolimit hg hobj hints (Nat.le_trans hlen hn2) hr hF hb fun H hO hS => hsp w H a ns hlen hO hS
end L2.Bv


namespace L2.Bv
open PySem L2
/-! ### data of ints -/
theorem dpInts {K : PySem.W.Frag} {H : Hp} : ∀ ns : List Int, DpAll K H (ns.map V.int) (ns.map PyData.int)
  | [] => .nil
  | n :: r => .cons (.int n) (dpInts r)
theorem layInts : ∀ ns : List Int, PyData.canLayAll0 (ns.map PyData.int) = true
  | [] => by simp [PyData.canLayAll0]
  | n :: r => by simp [PyData.canLayAll0, PyData.canLay0, layInts r]
theorem depInts : ∀ ns : List Int, PyData.depthAll (ns.map PyData.int) = 0
  | [] => by simp [PyData.depthAll]
  | n :: r => by simp [PyData.depthAll, PyData.depth, depInts r]
theorem shInts (ns : List Int) : SeqAt.shaped (.list (ns.map PyData.int)) = true := by
  simp [SeqAt.shaped, PyData.canLay0, PyData.depth, layInts, depInts]
theorem eqvNil (ns : List Int) : PyData.eqv (.list (ns.map PyData.int)) (.list []) = decide (ns = []) := by
  cases ns with
  | nil => simp [PyData.eqv, PyData.eqvAll]
  | cons n r => simp [PyData.eqv, PyData.eqvAll]
theorem mulRoom {m : Int} (h0 : 0 ≤ m) (h1 : m < 2147483647) : -(2 ^ 64) < m ∧ m < 2 ^ 64 := by
  constructor <;> omega
/-- the deal at dl, its cells at cl -/
structure DealAt (H : Hp) (dl cl : Addr) : Prop where
  ex : ∃ (cs : List Int) (m : Int), H dl = some (.lst [.ref cl, .int m]) ∧ H cl = some (.lst (cs.map V.int)) ∧ 0 ≤ m ∧ m < 2147483647 ∧ (∀ c ∈ cs, 0 ≤ c) ∧ cs.length ≤ 63
/-- all but the deal is as it was -/
def Keep (dl cl : Addr) (H H' : Hp) : Prop := ∀ x o, x ≠ dl → x ≠ cl → H x = some o → H' x = some o
theorem Keep.refl (dl cl : Addr) (H : Hp) : Keep dl cl H H := fun _ _ _ _ h => h
theorem Keep.trans {dl cl : Addr} {H H1 H2 : Hp} (a : Keep dl cl H H1) (b : Keep dl cl H1 H2) : Keep dl cl H H2 := fun x o h1 h2 h => b x o h1 h2 (a x o h1 h2 h)
theorem Keep.new {dl cl p : Addr} {H : Hp} (o : HO) (h : H p = none) : Keep dl cl H (upd H p o) := fun x u _ _ e => by
  rw [upd_ne (ne_of_none e h)]
  exact e
theorem Keep.cells {dl cl : Addr} {H : Hp} (o : HO) : Keep dl cl H (upd H cl o) := fun x u _ n e => by
  rw [upd_ne n]
  exact e
theorem Keep.deal {dl cl : Addr} {H : Hp} (o : HO) : Keep dl cl H (upd H dl o) := fun x u n _ e => by
  rw [upd_ne n]
  exact e
theorem DealAt.ne {H : Hp} {dl cl : Addr} (D : DealAt H dl cl) : dl ≠ cl := by
  obtain ⟨cs, m, h1, h2, _⟩ := D.ex
  intro e
  rw [e, h2] at h1
  cases cs with
  | nil => cases h1
  | cons c r => cases h1
theorem DealAt.new {H : Hp} {dl cl p : Addr} (D : DealAt H dl cl) (o : HO) (h : H p = none) : DealAt (upd H p o) dl cl := by
  obtain ⟨cs, m, h1, h2, r⟩ := D.ex
  refine ⟨cs, m, ?_, ?_, r⟩
  · rw [upd_ne (ne_of_none h1 h)]
    exact h1
  · rw [upd_ne (ne_of_none h2 h)]
    exact h2
theorem DealAt.cells {H : Hp} {dl cl : Addr} (D : DealAt H dl cl) {cs : List Int} (h0 : ∀ c ∈ cs, 0 ≤ c) (h1 : cs.length ≤ 63) : DealAt (upd H cl (.lst (cs.map V.int))) dl cl := by
  have n := D.ne
  obtain ⟨_, m, e1, _, m0, m1, _⟩ := D.ex
  exact ⟨cs, m, by rw [upd_ne n]; exact e1, upd_same, m0, m1, h0, h1⟩
theorem DealAt.mix {H : Hp} {dl cl : Addr} (D : DealAt H dl cl) {m : Int} (h0 : 0 ≤ m) (h1 : m < 2147483647) : DealAt (upd H dl (.lst [.ref cl, .int m])) dl cl := by
  have n := D.ne
  obtain ⟨cs, _, _, e2, _, _, c0, c1⟩ := D.ex
  exact ⟨cs, m, upd_same, by rw [upd_ne n.symm]; exact e2, h0, h1, c0, c1⟩
theorem DealAt.new' {H : Hp} {dl cl p : Addr} {o : HO} (D : DealAt H dl cl) (h1 : p ≠ dl) (h2 : p ≠ cl) : DealAt (upd H p o) dl cl := by
  obtain ⟨cs, m, e1, e2, r⟩ := D.ex
  refine ⟨cs, m, ?_, ?_, r⟩
  · rw [upd_ne h1.symm]
    exact e1
  · rw [upd_ne h2.symm]
    exact e2
theorem Keep.onto {dl cl : Addr} {H H' : Hp} {o : HO} (k : Keep dl cl H H') (p : Addr) (h : H p = none) : Keep dl cl H (upd H' p o) := fun x u n1 n2 e => by
  rw [upd_ne (ne_of_none e h)]
  exact k x u n1 n2 e
theorem mapLast {cs : List Int} (h : cs ≠ []) : ∃ (r : List Int) (c : Int), cs = r ++ [c] := ⟨cs.dropLast, cs.getLast h, (List.dropLast_concat_getLast h).symm⟩
theorem seqWhile {c : TT} {tb t : TS} {D : Ends} {σ0 : St} {H0 : Hp} (Pv : Nat → Hp → Prop) (h0 : ∃ m, Pv m H0) (rest : ∀ m H1, Pv m H1 → t D σ0 H1)
    (turn : (∀ m H1, Pv m H1 → t D σ0 H1) → ∀ m H1, Pv m H1 → c σ0 H1 fun b H2 => if b = true then ∃ N : St → Hp → Prop, (∀ σ' H', N σ' H' → ∃ m', m' < m ∧ (σ' = σ0 ∧ Pv m' H')) ∧ tb { D with nx := N, ct := N, bk := t D } σ0 H2 else t D σ0 H2) :
    tSeq (tWhile c tb) t D σ0 H0 := by
  refine ⟨fun m σ H => σ = σ0 ∧ Pv m H, h0.imp fun m h => ⟨rfl, h⟩, ?_⟩
  rintro m σ H ⟨rfl, p⟩
  exact turn rest m H p
theorem eqvNilT {ns : List Int} (h : ns = []) : (!PyData.eqv (.list (ns.map PyData.int)) (.list [])) = false := by
  rw [eqvNil, decide_eq_true h]
  rfl
theorem eqvNilF {ns : List Int} (h : ns ≠ []) : (!PyData.eqv (.list (ns.map PyData.int)) (.list [])) = true := by
  rw [eqvNil, decide_eq_false h]
  rfl
theorem mapInj : ∀ {ns ms : List Int}, ns.map V.int = ms.map V.int → ns = ms
  | [], [], _ => rfl
  | [], _ :: _, h => by cases h
  | _ :: _, [], h => by cases h
  | n :: r, m :: t, h => by
    have h' : V.int n :: r.map V.int = V.int m :: t.map V.int := h
    injection h' with h1 h2
    injection h1 with h3
    rw [h3, mapInj h2]
theorem fdivNonneg {a b : Int} (ha : 0 ≤ a) (hb : 1 ≤ b) : 0 ≤ a.fdiv b := Int.fdiv_nonneg ha (by omega)
theorem fmodRange (a : Int) {b : Int} (hb : 1 ≤ b) : 0 ≤ a.fmod b ∧ a.fmod b < b := ⟨Int.fmod_nonneg_of_pos a (by omega), Int.fmod_lt_of_pos a (by omega)⟩
theorem atLast (r : List Int) (c : Int) : atI ((r ++ [c]).map V.int) (-1) = some (.int c) := by
  rw [List.map_append]
  exact atI_last _ _
theorem popLast (r : List Int) (c : Int) : ((r ++ [c]).map V.int)[((r ++ [c]).map V.int).length - 1]? = some (.int c) := by
  simp
theorem popRest (r : List Int) (c : Int) : ((r ++ [c]).map V.int).dropLast = r.map V.int := by
  rw [List.map_append]
  simp
theorem gN {i : Nat} {v : V} {σ : St} {H : Hp} {Q : St → Hp → Prop} (h : Q (σ.set i (some v)) H) : gName i v σ H Q := h
theorem yesT {σ : St} {H : Hp} {Q : Bool → Hp → Prop} (h : Q true H) : tYes σ H Q := h
theorem mapGet {ms : List Int} {i : Nat} {x : V} (h : (ms.map V.int)[i]? = some x) : ∃ z, ms[i]? = some z ∧ x = V.int z := by
  rw [List.getElem?_map] at h
  cases e : ms[i]? with
  | none =>
    rw [e] at h
    cases h
  | some z =>
    rw [e] at h
    exact ⟨z, rfl, (Option.some.inj h).symm⟩
theorem seqIfS {c : TT} {t r : TS} {D : Ends} {σ : St} {H : Hp} (Pv : Hp → Prop) (rest : ∀ H1, Pv H1 → r D σ H1)
    (test : (∀ H1, Pv H1 → r D σ H1) → c σ H fun b H1 => if b = true then t { D with nx := r D } σ H1 else r D σ H1) : tSeq (tIfS c t tNext) r D σ H := test rest
/-! ### texts of few signs -/
def Few (n : Nat) (z : Str) : Prop := z.length ≤ n ∧ ∀ c ∈ z.cps.toList, c < 128
theorem few_append {n m : Nat} {x y : Str} (hx : Few n x) (hy : Few m y) : Few (n + m) (x ++ y) := by
  refine ⟨?_, fun c hc => ?_⟩
  · rw [Str.length_append]
    have h1 := hx.1
    have h2 := hy.1
    omega
  · have e : (x ++ y).cps.toList = x.cps.toList ++ y.cps.toList := Array.toList_append
    rw [e] at hc
    rcases List.mem_append.mp hc with z | z
    · exact hx.2 c z
    · exact hy.2 c z
theorem few_none : Few 0 Str.empty := ⟨Nat.le_refl _, fun c hc => nomatch (show c ∈ ([] : List Nat) from hc)⟩
theorem few_join : ∀ ys : List Str, (∀ y ∈ ys, Few 1 y) → Few ys.length (Str.join Str.empty ys)
  | [], _ => few_none
  | [x], h => h x List.mem_cons_self
  | x :: y :: r, h => by
    have q := few_join (y :: r) fun z hz => h z (List.mem_cons_of_mem _ hz)
    have e : Str.join Str.empty (x :: y :: r) = x ++ Str.empty ++ Str.join Str.empty (y :: r) := rfl
    rw [e]
    have z := few_append (few_append (h x List.mem_cons_self) few_none) q
    have el : (x :: y :: r).length = 1 + 0 + (y :: r).length := by
      simp only [List.length_cons]
      omega
    rw [el]
    exact z
theorem few_sum : ∀ ys : List Str, (∀ y ∈ ys, Few 1 y) → (ys.map (·.length)).sum ≤ ys.length
  | [], _ => Nat.le_refl _
  | x :: r, h => by
    have q := few_sum r fun z hz => h z (List.mem_cons_of_mem _ hz)
    have q1 := (h x List.mem_cons_self).1
    simp only [List.map_cons, List.sum_cons, List.length_cons]
    omega
end L2.Bv


namespace L2.K2
open PySem L2 L2.Bv
def top (i : Nat) : Stmt := PySem.Challenge.pw_boundorvoid_k02_what_lies_under.main.body.getD i (.Pass ⟨0, 0, 0, 0⟩)
abbrev sDeal : Stmt := top 43
abbrev sAny : Stmt := top 44
abbrev sOf : Stmt := top 45
theorem scD : FnScope ["script", "base", "cells", "stir", "cell"] ["script", "base"] (defScope sDeal) := ⟨rfl, rfl, rfl, by decide +kernel, rfl, by decide +kernel, by decide +kernel⟩
theorem scA : FnScope ["heap", "many", "rest"] ["heap", "many"] (defScope sAny) := ⟨rfl, rfl, rfl, by decide +kernel, rfl, by decide +kernel, by decide +kernel⟩
theorem scO : FnScope ["heap", "some"] ["heap", "some"] (defScope sOf) := ⟨rfl, rfl, rfl, by decide +kernel, rfl, by decide +kernel, by decide +kernel⟩
def spAny : Sp := fun vs H Q _ => ∃ (dl cl : Addr) (b : Int), vs = [.ref dl, .int b] ∧ DealAt H dl cl ∧ 1 ≤ b ∧ b < 1073741824 ∧
  ∀ (r : Int) (H' : Hp), 0 ≤ r → r < b → DealAt H' dl cl → Keep dl cl H H' → Q (.int r) H'
section
variable {P : Program} {w : World} {K : PySem.W.Frag} {mg : Str → Option Value} {base : Heap}
theorem ok_any {f : Addr} {fd : FuncData} (F : Fun K "_law_draw" "_law_draw" sAny f fd) (mi : mg "int" = none) : FnOk P w K mg base CX0 1 f fd ["heap", "many"] spAny := by
  refine F.ok scA (fun vs H Q E h => ?_) (fun cdv A outer s H vs Q E hr h => ?_)
  · obtain ⟨dl, cl, b, rfl, _⟩ := h
    rfl
  obtain ⟨dl, cl, b, rfl, D, b1, b2, q⟩ := h
  have hu := hr.units
  refine ⟨_, pss_cons (ps_while PassesOwn.never (PW.pt (pw_and
      (pt_cmpR (op_neD hu) (pe_ix ix_list (pv 0) pe_int (fun _ _ => rfl)) (pe_lst pa_nil) (nomark _))
      (pw_and1 (pt_cmpR op_eq (pe_ix ix_list (pe_ix ix_list (pv 0) pe_int (fun _ _ => rfl)) (pe_un un_neg pe_int) (fun _ _ => rfl)) pe_int (nomark _)))))
      (pss_one (ps_expr (pe_bm0 PySem.F.plainAttrs_list PySem.F.slot_list_pop PySem.F.type_list_pop mt_pop (pe_ix ix_list (pv 0) pe_int (fun _ _ => rfl))))))
    (pss_cons (ps_if (pt_cmpR (op_neD hu) (pe_ix ix_list (pv 0) pe_int (fun _ _ => rfl)) (pe_lst pa_nil) (nomark _))
      (pss_cons (ps_set (i := 2) scA.nd rfl (Or.inl rfl) (pe_callTy call_int1 (by rfl) mi (by decide +kernel)
        (pa_cons (pe_bm0 PySem.F.plainAttrs_list PySem.F.slot_list_pop PySem.F.type_list_pop mt_pop (pe_ix ix_list (pv 0) pe_int (fun _ _ => rfl))) pa_nil)))
      (pss_cons (ps_expr (pe_bm PySem.F.plainAttrs_list PySem.F.slot_list_append PySem.F.type_list_append mt_append (pe_ix ix_list (pv 0) pe_int (fun _ _ => rfl)) (pa_cons (pe_op op_fdivN (pv 2) (pv 1)) pa_nil)))
      (pss_one (ps_ret (pe_op op_modN (pv 2) (pv 1)))))) pss_nil)
    (pss_cons (ps_asg (pe_op op_mod (pe_callTy call_int1 (by rfl) mi (by decide +kernel) (pa_cons (pe_op op_add (pe_op op_mul (pe_ix ix_list (pv 0) pe_int (fun _ _ => rfl)) pe_int) pe_int) pa_nil)) pe_int) (pg_sub (pv 0) pe_int set_list))
    (pss_one (ps_ret (pe_op op_modN (pe_callTy call_int1 (by rfl) mi (by decide +kernel) (pa_cons (pe_op op_fdiv (pe_ix ix_list (pv 0) pe_int (fun _ _ => rfl)) pe_int) pa_nil)) (pv 1)))))), ?_⟩
  have hbN : b ≠ 0 ∧ b.natAbs < 1073741824 := by omega
  refine seqWhile (fun m H' => DealAt H' dl cl ∧ Keep dl cl H H' ∧ ∃ cs : List Int, H' cl = some (.lst (cs.map V.int)) ∧ cs.length = m) ?_ ?_ ?_
  · obtain ⟨cs, m, h1, h2, _⟩ := D.ex
    exact ⟨_, D, Keep.refl _ _ _, cs, h2, rfl⟩
  · rintro _ H1 ⟨D1, k1, -⟩
    have nd := D1.ne
    obtain ⟨cs, m, h1, h2, m0, m1, c0, c1⟩ := D1.ex
    refine ⟨_, rfl, _, _, _, _, rfl, rfl, SqL.of h1, rfl, (by show 0 ≤ sizeLine; decide), fun l hl => ?_⟩
    have D2 := D1.new (.lst []) hl
    have k2 := k1.trans (Keep.new (.lst []) hl)
    have g1 : upd H1 l (.lst []) dl = some (.lst [.ref cl, .int m]) := by
      rw [upd_ne (ne_of_none h1 hl)]
      exact h1
    have g2 : upd H1 l (.lst []) cl = some (.lst (cs.map V.int)) := by
      rw [upd_ne (ne_of_none h2 hl)]
      exact h2
    refine ⟨.list (cs.map PyData.int), .list [], .lst (SqL.of g2) (dpInts cs), .lst (SqL.of upd_same) .nil, shInts cs, shInts [], _, rfl, ?_⟩
    by_cases hcs : cs = []
    · rw [eqvNilT hcs]
      refine iteF ?_
      -- deal[1] = int(deal[1] * 48271 + 11) % 2147483647
      refine ⟨_, rfl, _, _, _, _, rfl, rfl, SqL.of g1, rfl, _, _, rfl, rfl, .inl (mulRoom m0 m1), _, _, rfl, rfl, .inl ⟨_, rfl, _, _, rfl, rfl, (by show (0 : Int) < 2147483647; decide), _, rfl, _, _, _, _, rfl, rfl, g1, rfl, ?_⟩⟩
      have x0 : 0 ≤ (m * 48271 + 11) % 2147483647 := Int.emod_nonneg _ (by decide)
      have x1 : (m * 48271 + 11) % 2147483647 < 2147483647 := Int.emod_lt_of_pos _ (by decide)
      have D3 := D2.mix x0 x1
      have k3 := k2.trans (Keep.deal (.lst [.ref cl, .int ((m * 48271 + 11) % 2147483647)]))
      obtain ⟨f0, f1⟩ := fmodRange ((m * 48271 + 11) % 2147483647 / 64) b1
      refine ⟨_, rfl, _, _, _, _, rfl, rfl, SqL.of upd_same, rfl, _, _, rfl, rfl, ⟨by decide, by decide⟩, .inl ⟨_, rfl, _, rfl, _, _, rfl, rfl, hbN.1, ?_⟩⟩
      exact q _ _ f0 f1 D3 k3
    · obtain ⟨r, c, rfl⟩ := mapLast hcs
      rw [eqvNilF hcs]
      refine iteT ?_
      have cc : 0 ≤ c := c0 c (by simp)
      have cr : ∀ z ∈ r, 0 ≤ z := fun z hz => c0 z (by simp [hz])
      have lr : r.length ≤ 62 := by
        simp at c1
        omega
      -- rest = int(deal[0].pop())
      refine ⟨_, rfl, _, _, _, _, rfl, rfl, SqL.of g1, rfl, .inl ⟨rfl, _, SqL.of g2⟩, _, _, _, rfl, rfl, g2, popLast r c, .inl ⟨_, rfl, ?_⟩⟩
      have g3 : upd (upd H1 l (.lst [])) cl (.lst ((r ++ [c]).map V.int).dropLast) dl = some (.lst [.ref cl, .int m]) := by
        rw [upd_ne nd]
        exact g1
      have g4 : upd (upd H1 l (.lst [])) cl (.lst ((r ++ [c]).map V.int).dropLast) cl = some (.lst (r.map V.int)) := by
        rw [upd_same, popRest]
      -- deal[0].append(rest // bound); return rest % bound
      refine ⟨_, rfl, _, _, _, _, rfl, rfl, SqL.of g3, rfl, .inl ⟨rfl, _, SqL.of g4⟩, _, rfl, _, rfl, _, _, rfl, rfl, hbN, _, _, _, rfl, rfl, g4, (by rw [List.length_map]; exact small1000 (by omega)), ?_⟩
      obtain ⟨f0, f1⟩ := fmodRange c b1
      refine ⟨_, rfl, _, rfl, _, _, rfl, rfl, hbN.1, ?_⟩
      have e : upd (upd (upd H1 l (.lst [])) cl (.lst ((r ++ [c]).map V.int).dropLast)) cl (.lst (r.map V.int ++ [.int (c.fdiv b)])) = upd (upd H1 l (.lst [])) cl (.lst ((r ++ [c.fdiv b]).map V.int)) := by
        rw [upd_upd, List.map_append]
        rfl
      rw [e]
      refine q _ _ f0 f1 (D2.cells (fun z hz => ?_) (by simp; omega)) (k2.trans (Keep.cells _))
      rcases List.mem_append.mp hz with z1 | z1
      · exact cr z z1
      · rw [List.mem_singleton.mp z1]
        exact fdivNonneg cc b1
  · rintro rest n H1 ⟨D1, k1, cs', e1, e2⟩
    obtain ⟨cs, m, h1, h2, m0, m1, c0, c1⟩ := D1.ex
    have nd := D1.ne
    obtain rfl : cs' = cs := by
      rw [e1] at h2
      exact mapInj (HO.lst.inj (Option.some.inj h2))
    refine ⟨_, rfl, _, _, _, _, rfl, rfl, SqL.of h1, rfl, (by show 0 ≤ sizeLine; decide), fun l hl => ?_⟩
    have D2 := D1.new (.lst []) hl
    have k2 := k1.trans (Keep.new (.lst []) hl)
    have g1 : upd H1 l (.lst []) dl = some (.lst [.ref cl, .int m]) := by
      rw [upd_ne (ne_of_none h1 hl)]
      exact h1
    have g2 : upd H1 l (.lst []) cl = some (.lst (cs'.map V.int)) := by
      rw [upd_ne (ne_of_none h2 hl)]
      exact h2
    refine ⟨.list (cs'.map PyData.int), .list [], .lst (SqL.of g2) (dpInts cs'), .lst (SqL.of upd_same) .nil, shInts cs', shInts [], _, rfl, ?_⟩
    by_cases hcs : cs' = []
    · rw [eqvNilT hcs]
      refine iteF (iteF ?_)
      exact rest n _ ⟨D2, k2, cs', g2, e2⟩
    · obtain ⟨r, c, rfl⟩ := mapLast hcs
      rw [eqvNilF hcs]
      refine iteT ?_
      have cr : ∀ z ∈ r, 0 ≤ z := fun z hz => c0 z (by simp [hz])
      have lr : r.length + 1 = n := by simpa using e2
      refine ⟨_, rfl, _, _, _, _, rfl, rfl, SqL.of g1, rfl, _, rfl, _, _, _, _, rfl, rfl, SqL.of g2, atLast r c, rfl, _, rfl, ?_⟩
      refine ite2 (fun hc => ?_) (fun hc => rest n _ ⟨D2, k2, _, g2, e2⟩)
      refine ⟨fun σ' H' => σ' = start ["heap", "many", "rest"] [V.ref dl, V.int b] ∧ DealAt H' dl cl ∧ Keep dl cl H H' ∧ H' cl = some (.lst (r.map V.int)), fun σ' H' ⟨y1, y2, y3, y4⟩ => ⟨r.length, by omega, y1, y2, y3, r, y4, rfl⟩, ?_⟩
      refine ⟨_, rfl, _, _, _, _, rfl, rfl, SqL.of g1, rfl, .inl ⟨rfl, _, SqL.of g2⟩, _, _, _, rfl, rfl, g2, popLast r c, ?_⟩
      rw [popRest]
      exact ⟨rfl, D2.cells cr (by simp at c1; omega), k2.trans (Keep.cells _), upd_same⟩
end
end L2.K2


namespace L2.K2
open PySem L2 L2.Bv
def spDeal (K : PySem.W.Frag) : Sp := fun vs H Q _ => ∃ (a : Addr) (ns : List Int), vs = [.ref a, .int 2] ∧ SqL K H a (ns.map V.int) ∧ ns.length ≤ 63 ∧
  ∀ (dl cl : Addr) (H' : Hp), H dl = none → H cl = none → Same H H' → DealAt H' dl cl → Q (.ref dl) H'
section
variable {P : Program} {w : World} {K : PySem.W.Frag} {mg : Str → Option Value} {base : Heap}
theorem ok_deal {f : Addr} {fd : FuncData} (F : Fun K "_law_heap" "_law_heap" sDeal f fd) (mi : mg "int" = none) (ma : mg "abs" = none) : FnOk P w K mg base CX0 1 f fd ["script", "base"] (spDeal K) := by
  refine F.ok scD (fun vs H Q E h => ?_) (fun cdv A outer s H vs Q E hr h => ?_)
  · obtain ⟨a, ns, rfl, _⟩ := h
    rfl
  obtain ⟨a, ns, rfl, hS, hl, q⟩ := h
  have hu := hr.units
  refine ⟨_, pss_cons (ps_setLc (i := 2) (own := [("cell", 4)]) (g := gName 4) (tt := tYes) rfl scD.nd rfl rfl (sw_true rfl rfl rfl (by decide +kernel)) (pi_list (pe_slice sl_list (pv 0) po_none (po_some pe_int)))
      (blkOk_by (N := ["script", "base", "cells", "stir", "cell"]) (sc := defScope sDeal) (by decide +kernel)) (fun _ _ _ _ _ => pg_name (i := 4) scD.nd rfl (Or.inl rfl)) (fun _ _ _ _ _ => pts_nil)
      (fun _ _ _ _ _ => pe_callB call_abs (by rfl) ma (by decide +kernel) (pa_cons (pe_callTy call_int1 (by rfl) mi (by decide +kernel) (pa_cons (pv 4) pa_nil)) pa_nil)))
    (pss_cons (ps_set (i := 3) scD.nd rfl (Or.inl rfl) (pe_op op_add pe_int (pe_op op_mul pe_int (pv 1))))
    (pss_cons (ps_for PassesOwn.never rfl (pi_list (pv 2)) (pg_name (i := 4) scD.nd rfl (Or.inl rfl))
      (pss_one (ps_set (i := 3) scD.nd rfl (Or.inl rfl) (pe_op op_mod (pe_callTy call_int1 (by rfl) mi (by decide +kernel)
        (pa_cons (pe_op op_add (pe_op op_add (pe_op op_mul (pv 3) pe_int) (pe_op op_mod (pv 4) pe_int)) pe_int) pa_nil)) pe_int))))
    (pss_one (ps_ret (pe_lst (pa_cons (pe_revL (pe_lc (own := [("cell", 4)]) (g := gName 4) (tt := _) rfl scD.nd (pi_list (pv 2)) (blkOk_by (N := ["script", "base", "cells", "stir", "cell"]) (sc := defScope sDeal) (by decide +kernel))
      (fun _ _ _ _ _ => pg_name (i := 4) scD.nd rfl (Or.inl rfl)) (fun _ _ _ _ _ => pts_one (pt_cmpR op_ge (pv 4) (pe_op op_pow pe_int pe_int) (nomark _))) (fun _ _ _ _ _ => pv 4))) (pa_cons (pv 3) pa_nil))))))), ?_⟩
  obtain ⟨ms, em, lm⟩ : ∃ ms : List Int, cutV (ns.map V.int) none (some 63) = ms.map V.int ∧ ms.length ≤ 63 := by
    refine ⟨(ns.drop (HT.sIx (ns.map V.int).length 0 none)).take (HT.sIx (ns.map V.int).length (ns.map V.int).length (some 63) - HT.sIx (ns.map V.int).length 0 none), ?_, ?_⟩
    · unfold cutV
      rw [List.map_take, List.map_drop]
    · rw [List.length_take, List.length_drop]
      omega
  refine ⟨_, rfl, _, rfl, _, _, rfl, hS, fun p hp => ?_⟩
  rw [em]
  refine ⟨p, rfl, ⟨_, SqL.of upd_same⟩, fun D hD => ?_⟩
  have npD : p ≠ D := ne_of_none upd_same hD
  have hDH : H D = none := by
    rw [upd_ne npD.symm] at hD
    exact hD
  let ab : Int → Int := fun z => if z < 0 then -z else z
  have ab0 : ∀ z, 0 ≤ ab z := fun z => by
    show 0 ≤ (if z < 0 then -z else z)
    split <;> omega
  refine lc_list (K := K) (a := p) (xs := ms.map V.int) (fun i H' => Same H H' ∧ H' p = some (.lst (ms.map V.int)) ∧ H' D = some (.lst ((ms.take i).map fun z => V.int (ab z)))) ?_ (fun i H' _ z => SqL.of z.2.1) ?_ ?_
  · refine ⟨fun b o e => ?_, ?_, upd_same⟩
    · rw [upd_ne (ne_of_none e hDH), upd_ne (ne_of_none e hp)]
      exact e
    · rw [upd_ne npD]
      exact upd_same
  · rintro i x H' hi ⟨s1, s2, s3⟩
    obtain ⟨z, hz, rfl⟩ := mapGet hi
    refine ⟨rfl, yesT (iteT ⟨_, rfl, .inl ⟨_, rfl, _, rfl, _, s3, ?_, ?_⟩⟩)⟩
    · rw [List.length_map]
      exact small1000 (by
        rw [List.length_take]
        omega)
    · refine ⟨fun b o e => ?_, ?_, ?_⟩
      · rw [upd_ne (ne_of_none e hDH)]
        exact s1 b o e
      · rw [upd_ne npD]
        exact s2
      · rw [upd_same, List.take_add_one, hz, List.map_append]
        rfl
  · rintro H1 ⟨s1, s2, s3⟩
    rw [List.length_map, List.take_length] at s3
    -- mix = 40093 * base + 877
    refine ⟨_, rfl, _, _, rfl, rfl, .inl ⟨by decide, by decide⟩, _, _, rfl, rfl, ?_⟩
    -- for cell in cells
    let cs : List Int := ms.map ab
    have ecs : (ms.map fun z => V.int (ab z)) = cs.map V.int := (List.map_map (l := ms) (f := ab) (g := V.int)).symm
    rw [ecs] at s3
    have lcs : cs.length ≤ 63 := by
      rw [List.length_map]
      exact lm
    have c0 : ∀ c ∈ cs, 0 ≤ c := fun c hc => by
      obtain ⟨z, _, rfl⟩ := List.mem_map.mp hc
      exact ab0 z
    refine ⟨_, rfl, D, rfl, ⟨_, SqL.of s3⟩, for_list (K := K) (a := D) (xs := cs.map V.int) (fun _ σ H2 => ∃ (m : Int) (v : Option V), σ = [some (.ref a), some (.int 2), some (.ref D), some (.int m), v] ∧ 0 ≤ m ∧ m < 2147483647 ∧ H2 = H1)
      ⟨_, none, rfl, by decide, by decide, rfl⟩ (fun _ _ _ _ ⟨_, _, _, _, _, e⟩ => by
        rw [e]
        exact SqL.of s3) ?_ ?_⟩
    · rintro i x σ H2 hi ⟨m, v, rfl, m0, m1, rfl⟩
      obtain ⟨z, hz, rfl⟩ := mapGet hi
      refine ⟨_, rfl, _, _, rfl, rfl, .inl (mulRoom m0 m1), _, rfl, _, _, rfl, rfl, (by show (0 : Int) < 2147483549; decide), _, _, rfl, rfl, _, _, rfl, rfl, .inl ⟨_, rfl, _, _, rfl, rfl, (by show (0 : Int) < 2147483647; decide), ?_⟩⟩
      exact ⟨_, _, rfl, Int.emod_nonneg _ (by decide), Int.emod_lt_of_pos _ (by decide), rfl⟩
    · rintro σ H2 ⟨m, v, rfl, m0, m1, rfl⟩
      -- return [[..][::-1], mix]
      refine ⟨_, rfl, D, rfl, ⟨_, SqL.of s3⟩, fun D2 hD2 => ?_⟩
      have hDD : D ≠ D2 := ne_of_none s3 hD2
      refine lc_list (K := K) (a := D) (xs := cs.map V.int) (fun i H' => Same H2 H' ∧ ∃ ds : List Int, H' D2 = some (.lst (ds.map V.int)) ∧ ds.length ≤ i ∧ ∀ c ∈ ds, 0 ≤ c) ?_ (fun i H' _ z => SqL.of (z.1 _ _ s3)) ?_ ?_
      · refine ⟨fun b o e => ?_, [], upd_same, Nat.le_refl _, fun c hc => absurd hc (by simp)⟩
        rw [upd_ne (ne_of_none e hD2)]
        exact e
      · rintro i x H' hi ⟨t1, ds, t2, t3, t4⟩
        obtain ⟨z, hz, rfl⟩ := mapGet hi
        have hi63 : i < 63 := by
          have q0 := (List.getElem?_eq_some_iff.mp hz).1
          omega
        refine ⟨rfl, _, rfl, _, _, rfl, rfl, ⟨by decide, by decide, by decide⟩, _, _, rfl, rfl, _, rfl, ?_⟩
        refine ite2 (fun _ => ?_) (fun _ => ⟨t1, ds, t2, Nat.le_succ_of_le t3, t4⟩)
        refine ⟨_, rfl, _, t2, ?_, ?_⟩
        · rw [List.length_map]
          exact small1000 (by omega)
        · refine ⟨fun b o e => ?_, ds ++ [z], ?_, ?_, ?_⟩
          · rw [upd_ne (ne_of_none e hD2)]
            exact t1 b o e
          · rw [upd_same, List.map_append]
            rfl
          · rw [List.length_append]
            exact Nat.succ_le_succ t3
          · intro c hc
            rcases List.mem_append.mp hc with y | y
            · exact t4 c y
            · rw [List.mem_singleton.mp y]
              exact c0 z (List.mem_of_getElem? hz)
      · rintro H3 ⟨t1, ds, t2, t3, t4⟩
        rw [List.length_map] at t3
        refine ⟨_, _, rfl, SqL.of t2, fun cl hcl => ⟨_, rfl, ⟨by show 2 ≤ sizeLine; decide, fun dl hdl => ?_⟩⟩⟩
        rw [← List.map_reverse] at hdl ⊢
        have s4 : Same H H3 := s1.trans t1
        have ncd : cl ≠ dl := ne_of_none upd_same hdl
        have hdl3 : H3 dl = none := by
          rw [upd_ne ncd.symm] at hdl
          exact hdl
        refine q dl cl _ (s4.free hdl3) (s4.free hcl) (fun b o e => ?_) ⟨ds.reverse, m, upd_same, ?_, m0, m1, fun c hc => t4 c (List.mem_reverse.mp hc), ?_⟩
        · rw [upd_ne (ne_of_none (s4 b o e) hdl3), upd_ne (ne_of_none (s4 b o e) hcl)]
          exact s4 b o e
        · rw [upd_ne ncd]
          exact upd_same
        · rw [List.length_reverse]
          omega
end
end L2.K2


namespace L2.K2
open PySem L2 L2.Bv
/-- one of the things of a list, one sign of a text -/
def spOf : Sp := fun vs H Q _ => ∃ (dl cl : Addr) (x : V), vs = [.ref dl, x] ∧ DealAt H dl cl ∧
  ((∃ (a : Addr) (xs : List V), x = .ref a ∧ a ≠ dl ∧ a ≠ cl ∧ H a = some (.lst xs) ∧ 1 ≤ xs.length ∧ xs.length ≤ 1000 ∧ ∀ (i : Nat) (v : V) (H' : Hp), xs[i]? = some v → DealAt H' dl cl → Keep dl cl H H' → Q v H') ∨
   (∃ z : Str, x = .str z ∧ 1 ≤ z.length ∧ z.length ≤ 1000 ∧ ∀ (c : Nat) (H' : Hp), c ∈ z.cps.toList → DealAt H' dl cl → Keep dl cl H H' → Q (.str ⟨#[c]⟩) H'))
section
variable {P : Program} {w : World} {K : PySem.W.Frag} {mg : Str → Option Value} {base : Heap}
theorem ok_of {f g : Addr} {fd gd : FuncData} (F : Fun K "_law_pick" "_law_pick" sOf f fd) (G : FnOk P w K mg base CX0 1 g gd ["heap", "many"] spAny) (kG : PySem.W.keepIn K (.ref g) = true) (bG : Binds K gd ["heap", "many"] []) (mG : mg "_law_draw" = some (.ref g))
    (ml : mg "len" = none) : FnOk P w K mg base CX0 2 f fd ["heap", "some"] spOf := by
  refine F.ok scO (fun vs H Q E h => ?_) (fun cdv A outer s H vs Q E hr h => ?_)
  · obtain ⟨dl, cl, x, rfl, _⟩ := h
    rfl
  obtain ⟨dl, cl, x, rfl, D, q⟩ := h
  refine ⟨_, pss_one (ps_ret (pe_ix ix_seq (pv 1) (pe_call G hr rfl mG kG bG .nil pass0 (pa_cons (pv 0) (pa_cons (pe_callB call_len (by rfl) ml PySem.boot_len (pa_cons (pv 1) pa_nil)) pa_nil))) (fun _ _ => rfl))), ?_⟩
  rcases q with ⟨a, xs, rfl, n1, n2, ha, l1, l2, q⟩ | ⟨z, rfl, l1, l2, q⟩
  · refine ⟨_, rfl, _, rfl, _, rfl, _, _, rfl, .inl ⟨_, SqL.of ha, rfl⟩, dl, cl, _, rfl, D, by omega, by omega, fun r H' r0 r1 D' k' => ?_⟩
    obtain ⟨n, rfl⟩ := Int.eq_ofNat_of_zero_le r0
    have hn : n < xs.length := by omega
    have e := List.getElem?_eq_getElem hn
    refine .inl ⟨_, _, _, _, rfl, rfl, SqL.of (k' a _ n1 n2 ha), atI_nat e, ?_⟩
    exact q n _ H' e D' k'
  · refine ⟨_, rfl, _, rfl, _, rfl, _, _, rfl, ⟨?_, rfl⟩, dl, cl, _, rfl, D, by omega, by omega, fun r H' r0 r1 D' k' => ?_⟩
    · exact Nat.le_of_lt (small1000 l2)
    obtain ⟨n, rfl⟩ := Int.eq_ofNat_of_zero_le r0
    have hn : n < z.cps.toList.length := by
      have e0 : z.cps.toList.length = z.length := by
        rw [Array.length_toList]
        rfl
      omega
    have e := List.getElem?_eq_getElem hn
    refine .inr (.inr ⟨_, _, _, rfl, rfl, Nat.le_of_lt (small1000 l2), atI_nat e, ?_⟩)
    exact q _ H' (List.getElem_mem hn) D' k'
end
end L2.K2


namespace L2.Ts
open PySem PySem.Spec PyProof.Rows L2
/-! ### sets of texts: their members can be walked -/
abbrev Tk (P : Program) (w : World) := mixKind P w
def rowT (P : Program) (w : World) (p : Str × Tok) : Int × Value := ((mixKind P w).hash (.inr p.1), .str p.1 p.2)
/-- the set at a holds just the texts ys, each once -/
def TSet (P : Program) (w : World) (h : Heap) (a : Addr) (ys : List Str) : Prop :=
  ∃ (o : Obj) (es : Array (Int × Value)) (ep : Nat) (t : SetTable) (ps : List (Str × Tok)), h.get? a = some o ∧ o.ExactSet ∧ o.data = .set es ep t ∧ es.toList.Perm (ps.map (rowT P w)) ∧ ps.map (·.1) = ys ∧
    (es.size < scanBound ∧ t.fits es.size = true ∧ Ris t.place.toList ∧ (w.params.followText "set-order" = true ∨ t.led = true))
section
variable {P : Program} {w : World} {A : Around} {E : Value → Shared → Prop} {s : Shared} {a : Addr} {ys : List Str}
theorem TSet.at {h h' : Heap} (R : TSet P w h a ys) (k : ∀ o, h.get? a = some o → h'.get? a = some o) : TSet P w h' a ys := by
  obtain ⟨o, es, ep, t, ps, e, r⟩ := R
  exact ⟨o, es, ep, t, ps, k o e, r⟩
theorem rows_elems {ps : List (Str × Tok)} {l : List (Int × Value)} (pm : l.Perm (ps.map (rowT P w))) : ElemsOf (mixKind P w) l := by
  intro e he
  obtain ⟨p, _, rfl⟩ := List.mem_map.mp (pm.mem_iff.mp he)
  exact ⟨⟨.inr p.1, mixKind_str P w p.1 p.2, rfl⟩, rfl⟩
theorem row_is {x : Str} {p : Str × Tok} : (mixKind P w).is (.inr x) (rowT P w p).2 = true → p.1 = x := fun h => by
  rcases keyIs_shape (show keyIs (.inr x) (.str p.1 p.2) = true from h) with ⟨i, t, e, _⟩ | ⟨y, t, e1, e2⟩
  · cases e
  · cases e1
    injection e2 with e3 _
theorem has_row {x : Str} {ps : List (Str × Tok)} {l : List (Int × Value)} (pm : l.Perm (ps.map (rowT P w))) : (∃ e ∈ l, (mixKind P w).is (.inr x) e.2 = true) ↔ x ∈ ps.map (·.1) := by
  constructor
  · rintro ⟨e, he, q⟩
    obtain ⟨p, hp, rfl⟩ := List.mem_map.mp (pm.mem_iff.mp he)
    exact List.mem_map.mpr ⟨p, hp, row_is q⟩
  · intro h
    obtain ⟨p, hp, rfl⟩ := List.mem_map.mp h
    exact ⟨rowT P w p, pm.mem_iff.mpr (List.mem_map.mpr ⟨p, hp, rfl⟩), mixKind_str P w p.1 p.2⟩
theorem putAt {h : Heap} {o : Obj} {es es' : Array (Int × Value)} {ep : Nat} {t t' : SetTable} (e : h.get? a = some o) (d : o.data = .set es ep t) : (h.update a (Obj.putSet es' t')).get? a = some { o with data := .set es' (ep + 1) t' } := by
  have z := Heap.get?_update_self (Obj.putSet es' t') e (by rw [putSet_of es' t' d] <;> rfl)
  rwa [putSet_of es' t' d] at z
/-- behind the laying: stored, and laid anew if it is too full -/
theorem lay_tail {g : Bool → Sem Unit} (hg : ∀ (b : Bool) (z : Shared) (Q : Unit → Shared → Prop), Q () z → wpAny (model P w) A (g b) Q E z) {o : Obj} {es es1 : Array (Int × Value)} {ep : Nat} {t t2 : SetTable} {ps : List (Str × Tok)}
    (e : s.heap.get? a = some o) (ex : o.ExactSet) (d : o.data = .set es ep t) (pm : es1.toList.Perm (ps.map (rowT P w))) (b1 : es1.size < scanBound) (f2 : t2.fits es1.size = true) (r2 : Ris t2.place.toList)
    (l2 : w.params.followText "set-order" = true ∨ t2.led = true) {wd : Bool} {R : Option Bool → Shared → Prop} (hR : ∀ h', Heap.SameBut a s.heap h' → TSet P w h' a (ps.map (·.1)) → R (some true) { s with heap := h' }) :
    wpAny (model P w) A (do storeSet a es1 t2; if (!wd && t2.tooFull) = true then (do g (relayAll t2 es1 (SetTable.grown es1.size)).2.2; storeSet a (relayAll t2 es1 (SetTable.grown es1.size)).1 (relayAll t2 es1 (SetTable.grown es1.size)).2.1; pure (some true)) else pure (some true)) R E s := by
  have e1 := putAt (es' := es1) (t' := t2) e d
  have same1 := Heap.SameBut.update s.heap a (Obj.putSet es1 t2)
  refine wpAny_bind (wpAny_storeSet_of e d ?_ (fits_of_scanBound b1))
  by_cases full : (!wd && t2.tooFull) = true
  · rw [if_pos full]
    have q1 := relayAll_perm t2 es1 (SetTable.grown es1.size)
    have q2 := relayAll_fits t2 es1 (SetTable.grown es1.size)
    have q3 := relayAll_ris t2 es1 (SetTable.grown es1.size)
    have q4 := relayAll_led t2 es1 (SetTable.grown es1.size)
    generalize relayAll t2 es1 (SetTable.grown es1.size) = Z at q1 q2 q3 q4 ⊢
    obtain ⟨es2, t3, gv⟩ := Z
    dsimp only at q1 q2 q3 q4 ⊢
    have n2 : es2.size < scanBound := by
      have z : es2.size = es1.size := by rw [← Array.length_toList, q1.length_eq, Array.length_toList]
      omega
    refine wpAny_bind (hg _ _ _ (wpAny_bind (wpAny_storeSet_of e1 rfl (wpAny_pure (hR _ (same1.trans (Heap.SameBut.update _ a _)) ?_)) (fits_of_scanBound n2))))
    exact ⟨_, es2, _, t3, ps, putAt (es' := es2) (t' := t3) e1 rfl, ex, rfl, q1.trans pm, rfl, n2, q2, q3, l2.imp id fun z => by rw [q4]; exact z⟩
  · rw [if_neg full]
    exact wpAny_pure (hR _ same1 ⟨_, es1, _, t2, ps, e1, ex, rfl, pm, rfl, b1, f2, r2, l2⟩)
/-- a text put in -/
theorem tset_add {x : Str} {tk : Tok} {Q : Bool → Shared → Prop} (R : TSet P w s.heap a ys) (room : ys.length + 1 < scanBound)
    (hQ : ∀ (b : Bool) (h' : Heap), Heap.SameBut a s.heap h' → TSet P w h' a (if x ∈ ys then ys else ys ++ [x]) → Q b { s with heap := h' }) : wpAny (model P w) A (setAddHashed a (.str x tk) ((mixKind P w).hash (.inr x))) Q E s := by
  obtain ⟨o, es, ep, t, ps, e, ex, d, pm, rfl, b0, f0, r0, l0⟩ := R
  have el := rows_elems pm
  have is0 : (mixKind P w).is (.inr x) (.str x tk) = true := mixKind_str P w x tk
  have hs : (Value.str x tk).scannable = true := rfl
  unfold setAddHashed setAddHashedIn
  refine wpAny_holding (wpAny_bind (wpAny_setState_of e d f0 ?_))
  dsimp only
  rw [byScan_of hs b0 el]
  simp only [↓reduceIte]
  unfold setAddByScan
  refine wpAny_bind (wpAny_bind (wpAny_rule (wpAny_bind (wpAny_setScan_of is0 e d f0 el ?_))))
  cases hfi : List.findIdx? (fun u => (mixKind P w).is (.inr x) u.2) es.toList with
  | some j =>
    obtain ⟨hj, pj, _⟩ := List.findIdx?_eq_some_iff_getElem.mp hfi
    have hx : x ∈ ps.map (·.1) := (has_row pm).mp ⟨es.toList[j], List.getElem_mem hj, pj⟩
    have z := hQ false s.heap (Heap.SameBut.refl a s.heap) (by rw [if_pos hx]; exact ⟨o, es, ep, t, ps, e, ex, d, pm, rfl, b0, f0, r0, l0⟩)
    exact wpAny_pure (wpAny_pure z)
  | none =>
    have hx : ¬ x ∈ ps.map (·.1) := fun h => by
      obtain ⟨u, hu, q⟩ := (has_row pm).mpr h
      have c := List.findIdx?_eq_none_iff.mp hfi u hu
      rw [q] at c
      cases c
    dsimp only
    have way : ∀ (b : Bool) {z : Shared} {Q' : Unit → Shared → Prop}, Q' () z → wpAny (model P w) A (match b with | true => rule "set.scan.the-table-gave-way" | false => pure ()) Q' E z := fun b z Q' q => by
      cases b
      · exact wpAny_pure q
      · exact wpAny_rule q
    have q1 := layNew_perm t es ((mixKind P w).hash (.inr x)) (.str x tk)
    have q2 := layNew_fits t es ((mixKind P w).hash (.inr x)) (.str x tk)
    have q3 := layNew_ris t es ((mixKind P w).hash (.inr x)) (.str x tk) r0
    have q4 := layNew_led t es ((mixKind P w).hash (.inr x)) (.str x tk)
    generalize layNew t es ((mixKind P w).hash (.inr x)) (.str x tk) = Z at q1 q2 q3 q4 ⊢
    obtain ⟨es1, t1, wd, gv⟩ := Z
    dsimp only at q1 q2 q3 q4 ⊢
    rw [Array.toList_push] at q1
    have pm1 : es1.toList.Perm ((ps ++ [(x, tk)]).map (rowT P w)) := by
      rw [List.map_append]
      exact q1.trans (pm.append_right _)
    have b1 : es1.size < scanBound := by
      have z := pm1.length_eq
      rw [Array.length_toList, List.length_map, List.length_append] at z
      rw [List.length_map] at room
      have z2 : [(x, tk)].length = 1 := rfl
      omega
    have l1 : w.params.followText "set-order" = true ∨ t1.led = true := l0.imp id fun z => by rw [q4]; exact z
    have fin : ∀ h', Heap.SameBut a s.heap h' → TSet P w h' a ((ps ++ [(x, tk)]).map (·.1)) → Q true { s with heap := h' } := fun h' sb r => hQ true h' sb (by
      rw [if_neg hx]
      rw [List.map_append] at r
      exact r)
    refine wpAny_bind (way _ ?_)
    split
    · refine wpAny_bind ?_
      rw [hashByValue_scannable 8 hs]
      refine wpAny_pure (lay_tail ?_ e ex d pm1 b1 ?_ ?_ ?_ ?_)
      · intro b z Q' q
        cases b
        · exact wpAny_pure q
        · exact wpAny_rule q
      · first | (split <;> first | exact q2 | exact SetTable.fits_plain_off q2) | exact q2
      · first | (split <;> exact q3) | exact q3
      · first | (split <;> exact l1) | exact l1
      · intro h' sb r
        exact wpAny_pure (fin h' sb r)
    · refine wpAny_bind (wpAny_pure ?_)
      simp only [↓reduceIte]
      refine lay_tail ?_ e ex d pm1 b1 q2 q3 l1 ?_
      · intro b z Q' q
        cases b
        · exact wpAny_pure q
        · exact wpAny_rule q
      · intro h' sb r
        exact wpAny_pure (fin h' sb r)
end
end L2.Ts


namespace L2.Ts
open PySem PySem.Spec PyProof.Rows L2
/-- each text once, in the order in which they come first -/
def once1 (ys : List Str) (x : Str) : List Str := if x ∈ ys then ys else ys ++ [x]
def once (xs : List Str) : List Str := xs.foldl once1 []
theorem once1_mem {ys : List Str} {x y : Str} : y ∈ once1 ys x ↔ y ∈ ys ∨ y = x := by
  unfold once1
  split
  · rename_i h
    exact ⟨.inl, fun z => z.elim id fun e => e ▸ h⟩
  · rw [List.mem_append, List.mem_singleton]
theorem once1_nodup {ys : List Str} {x : Str} (h : ys.Nodup) : (once1 ys x).Nodup := by
  unfold once1
  split
  · exact h
  · rename_i n
    refine List.nodup_append.mpr ⟨h, List.nodup_cons.mpr ⟨by simp, List.nodup_nil⟩, fun a ha b hb e => ?_⟩
    rw [List.mem_singleton.mp hb] at e
    exact n (e ▸ ha)
theorem once1_len (ys : List Str) (x : Str) : (once1 ys x).length ≤ ys.length + 1 := by
  unfold once1
  split
  · omega
  · rw [List.length_append] <;> exact Nat.le_refl _
theorem fold_mem : ∀ (xs ys : List Str) (y : Str), y ∈ xs.foldl once1 ys ↔ y ∈ ys ∨ y ∈ xs
  | [], ys, y => by simp
  | x :: r, ys, y => by
    rw [List.foldl_cons, fold_mem r _ y, once1_mem, List.mem_cons, or_assoc]
theorem fold_nodup : ∀ (xs ys : List Str), ys.Nodup → (xs.foldl once1 ys).Nodup
  | [], _, h => h
  | x :: r, _, h => fold_nodup r _ (once1_nodup h)
theorem fold_len : ∀ (xs ys : List Str), (xs.foldl once1 ys).length ≤ ys.length + xs.length
  | [], _ => Nat.le_refl _
  | x :: r, ys => by
    rw [List.foldl_cons, List.length_cons]
    have a := fold_len r (once1 ys x)
    have b := once1_len ys x
    omega
theorem once_mem {xs : List Str} {y : Str} : y ∈ once xs ↔ y ∈ xs := by
  unfold once
  rw [fold_mem]
  simp
theorem once_nodup (xs : List Str) : (once xs).Nodup := fold_nodup xs [] List.nodup_nil
theorem once_len (xs : List Str) : (once xs).length ≤ xs.length := by
  have z := fold_len xs []
  rw [List.length_nil, Nat.zero_add] at z
  exact z
theorem fold_same : ∀ (xs ys : List Str), (∀ x ∈ xs, x ∉ ys) → xs.Nodup → xs.foldl once1 ys = ys ++ xs
  | [], ys, _, _ => by simp
  | x :: r, ys, h, nd => by
    have nx : ¬ x ∈ ys := h x List.mem_cons_self
    have e : once1 ys x = ys ++ [x] := if_neg nx
    obtain ⟨d1, d2⟩ := List.nodup_cons.mp nd
    rw [List.foldl_cons, e, fold_same r (ys ++ [x]) (fun z hz hm => ?_) d2, List.append_assoc]
    · rfl
    · rcases List.mem_append.mp hm with q | q
      · exact h z (List.mem_cons_of_mem _ hz) q
      · rw [List.mem_singleton.mp q] at hz
        exact d1 hz
theorem once_same {xs : List Str} (h : xs.Nodup) : once xs = xs := by
  have z := fold_same xs [] (fun _ _ q => by cases q) h
  rwa [List.nil_append] at z
section
variable {P : Program} {w : World} {A : Around} {E : Value → Shared → Prop} {s : Shared}
theorem upd_loop {R : Result → Shared → Prop} {I S : Addr} {fp wr : List Addr} {G : Array GenState → Array GenState → Prop} {n : Nat} {Pv : Nat → Value → Prop} {Z : Nat → Shared → Prop} (W : WalksS P w A.in1 I fp wr G n Pv Z) (off : S ∉ fp)
    (xs : List Str) (hn : xs.length = n) (few : n + 1 < scanBound) (hv : ∀ i v, Pv i v → ∃ x t, xs[i]? = some x ∧ v = .str x t) : ∀ (k i : Nat) (s : Shared), n - i = k → i ≤ n → Z i s → TSet P w s.heap S ((xs.take i).foldl once1 []) →
      (∀ s', Moved (S :: wr) G s s' → TSet P w s'.heap S (once xs) → R (.ok (.ret .none)) s') → codeAny (model P w) A (.builtin "set.update.loop" ⟨[.ref S, .ref I], []⟩) R s := by
  have offw : S ∉ wr := fun h => off (W.sub _ h)
  have up : ∀ b ∈ wr, b ∈ S :: wr := fun b q => List.mem_cons_of_mem _ q
  intro k
  induction k with
  | zero =>
    intro i s e le z T hR
    obtain rfl : i = n := by omega
    refine codeAny_builtin F.entry_set_update_loop ?_
    rw [Around.under_plainId F.plain_set_update_loop _]
    show wpAny _ A.in1 (pyNext (.ref I) >>= _) _ _ s
    refine wpAny_bind (W.done s _ _ z fun s1 m1 => ?_)
    show wpAny _ A.in1 (ret Value.none) _ _ s1
    refine wpAny_pure (hR s1 (m1.mono up) ?_)
    rw [← hn, List.take_length] at T
    exact T.at fun o q => m1.heap S o offw q
  | succ k ih =>
    intro i s e le z T hR
    have lt : i < n := by omega
    refine codeAny_builtin F.entry_set_update_loop ?_
    rw [Around.under_plainId F.plain_set_update_loop _]
    show wpAny _ A.in1 (pyNext (.ref I) >>= _) _ _ s
    refine wpAny_bind (W.item i s _ _ lt z fun v s1 pv z1 m1 => ?_)
    obtain ⟨x, t, hx, rfl⟩ := hv i v pv
    have T1 : TSet P w s1.heap S ((xs.take i).foldl once1 []) := T.at fun o q => m1.heap S o offw q
    show wpAny _ A.in1 (holding [Value.str x t] (setAdd S (.str x t)) >>= _) _ _ s1
    refine wpAny_bind (wpAny_holding ?_)
    unfold setAdd
    refine wpAny_holding (wpAny_bind ((mixKind P w).pyHash (k := .inr x) (mixKind_str P w x t) ?_))
    have room : ((xs.take i).foldl once1 []).length + 1 < scanBound := by
      have q := fold_len (xs.take i) []
      rw [List.length_take, List.length_nil] at q
      omega
    refine tset_add (s := { s1 with toks := s1.toks + 1 }) T1 room fun b h' sb T2 => ?_
    have T3 : TSet P w h' S ((xs.take (i + 1)).foldl once1 []) := by
      rw [List.take_add_one, hx, List.foldl_append]
      exact T2
    refine wpAny_pure ⟨plainId_quiet F.plain_set_update_loop _, ih (i + 1) _ (by omega) lt (W.frame _ s1 _ _ z1 (Nat.le_succ _) fun b hb o q => ?_) T3 fun s2 m2 T4 => hR s2 (Moved.trans W.gtrans ((m1.mono up).then_heap (Nat.le_succ _) fun b o hb q => ?_) m2) T4⟩
    · exact (sb.2 b fun q1 : b = S => off (q1 ▸ hb)).trans q
    · exact (sb.2 b fun q1 : b = S => hb (by rw [q1]; exact List.mem_cons_self)).trans q
theorem tset_new {h : Heap} {a : Addr} (e : h.get? a = some { cls := .type "set", dict := none, data := .set #[] 0 (.fresh 0 0 (!w.params.followText "set-order")) }) : TSet P w h a [] :=
  ⟨_, #[], 0, _, [], e, ⟨rfl, rfl, rfl⟩, rfl, .nil, rfl, by decide, by rfl, List.Pairwise.nil, by
    show _ ∨ (!w.params.followText "set-order") = true
    cases w.params.followText "set-order" with
    | true => exact .inl rfl
    | false => exact .inr rfl⟩
end
end L2.Ts


namespace L2.Ts
open PySem PySem.Spec PyProof.Rows L2
section
variable {P : Program} {w : World} {A : Around} {E : Value → Shared → Prop} {s : Shared}
/-- the new set of such a world -/
abbrev freshSet (w : World) : Obj := { cls := .type "set", dict := none, data := .set #[] 0 (.fresh 0 0 (!w.params.followText "set-order")) }
theorem strAt : ∀ {us : List Value} {xs : List Str}, StrsAre us xs → ∀ (i : Nat) (v : Value), us[i]? = some v → ∃ x t, xs[i]? = some x ∧ v = .str x t := by
  intro us xs h
  induction h with
  | nil => intro i v e; cases e
  | cons x t r ih =>
    intro i v e
    cases i with
    | zero => exact ⟨x, t, rfl, (Option.some.inj e).symm⟩
    | succ i => exact ih i v e
set_option maxHeartbeats 3200000 in
/-- set(xs) of a list of texts -/
theorem call_set_txt {l : Addr} {items : Array Value} {xs : List Str} {Q : Value → Shared → Prop} (hh : A.handled = none) (hl : s.heap.IsList l items) (hx : StrsAre items.toList xs) (few : xs.length + 1 < scanBound)
    (h : ∀ (h' : Heap) (tk : Nat), TSet P w h' s.heap.objs.size (once xs) → (∀ b o, s.heap.get? b = some o → h'.get? b = some o) → Q (.ref s.heap.objs.size) { s with heap := h', toks := tk }) : wpAny (model P w) A (call (.type "set") [.ref l]) Q E s := by
  have isz : xs.length = items.size := by rw [← hx.length, Array.length_toList]
  have made := F.called_set.made
  have sub0 := F.called_set.sub
  obtain ⟨c, tl, mro0⟩ := F.called_set.mro
  refine wpAny_call (codeAny_of_tree ?_)
  show wpAny _ _ (callAny (.type "set") _) _ _ _
  refine wpAny_pure ⟨Code.quiet_builtin _ (by decide +kernel), codeAny_builtin F.entry_type_call ?_⟩
  rw [Around.under_plain (weight_type_call_type "set" [.ref l] []) rfl]
  have y1 := F.called_set.notType
  have y2 := F.called_set.canCreate
  have y3 := F.typeCall_set_1 (.ref l)
  repeat (any_goals (first | assumption | wp_step))
  refine codeAny_mono (code_set_led1 (.ref l) (E := E) (Q₁ := fun ob z => ob = .ref s.heap.objs.size ∧ z = { s with heap := s.heap.push (freshSet w) }) ⟨rfl, rfl⟩) fun r s₁ hr => ?_
  cases r with
  | error e => exact hr
  | ok fl =>
    cases fl with
    | next => exact hr.elim
    | brk => exact hr.elim
    | cont => exact hr.elim
    | ret obj =>
      obtain ⟨rfl, rfl⟩ := hr
      have new0 : (s.heap.push (freshSet w)).get? s.heap.objs.size = some (freshSet w) := Heap.get?_push_size _ rfl
      have tyS : Shared.TypeIs { s with heap := s.heap.push (freshSet w) } (.ref s.heap.objs.size) "set" := ⟨_, new0, rfl⟩
      have y4 := F.called_set.init.lookup
      have y5 := F.called_set.init.bind (.ref s.heap.objs.size)
      repeat (any_goals (first | assumption | wp_step))
      refine codeAny_mono (codeAny_call_builtin (R := wants (fun r z => r = .none ∧ ∃ h' tk, z = { s with heap := h', toks := tk } ∧ TSet P w h' s.heap.objs.size (once xs) ∧ ∀ b o, s.heap.get? b = some o → h'.get? b = some o) E) F.called_set.init.plain F.entry_set_init (check_set_init_1 tyS ?_)) fun r₂ s₂ hr₂ => ?_
      · obtain ⟨ol, ho, hcl, nl, hdl⟩ := hl
        obtain ⟨ocls, odict, odata, oslots⟩ := ol
        simp only at hcl hdl
        subst hcl
        subst hdl
        have ho' : (s.heap.push (freshSet w)).get? l = some { cls := .type "list", dict := odict, data := .seq items nl, slots := oslots } := Heap.get?_push_of_some _ ho
        have y6 := F.sub_list_set
        have y7 := F.sub_list_frozenset
        have y8 : (Value.type "list" == Value.type "dict") = false := by decide
        have lp : (s.heap.push (freshSet w)).IsList l items := ⟨_, ho', rfl, nl, rfl⟩
        unfold Builtin.«set.__init__» noKeywords Builtin.Frozenset.updateFrom
        generalize hPI : pyIter = PI
        wp_walk
        subst hPI
        refine wpAny_pyIter_list lp (wpAny_bind (wpAny_runValue ?_))
        have lt : l < s.heap.objs.size := Heap.lt_size ho
        have h3 : A.in1.in1.in1.handled = none := by simp [hh]
        have zz : (s.heap.push (freshSet w)).objs.size = s.heap.objs.size + 1 := Heap.size_push ..
        have ne1 : l ≠ (s.heap.push (freshSet w)).objs.size := by
          rw [zz]
          exact Nat.ne_of_lt (Nat.lt_succ_of_lt lt)
        have off : s.heap.objs.size ∉ [(s.heap.push (freshSet w)).objs.size, l] := by
          rw [zz]
          simp only [List.mem_cons, List.not_mem_nil, or_false, not_or]
          exact ⟨Nat.ne_of_lt (Nat.lt_succ_self _), Nat.ne_of_gt lt⟩
        have free : ∀ b, s.heap.objs.size ≤ b → s.heap.get? b = none := fun b hb => by
          cases q : s.heap.get? b with
          | none => rfl
          | some o => exact absurd (Nat.lt_of_lt_of_le (Heap.lt_size q) hb) (Nat.lt_irrefl _)
        refine upd_loop ((Walks.list h3 _ l ne1 items).toS) off xs isz (by omega) (fun i v hv => strAt hx i v (by rw [Array.getElem?_toList] <;> exact hv)) (items.size - 0) 0 _ (by omega) (Nat.zero_le _)
          ⟨⟨_, Heap.get?_push_size _ rfl, rfl, rfl⟩, (lp.push _)⟩ (tset_new (Heap.get?_push_of_some _ new0)) fun s' m T => ?_
        obtain ⟨h', g', d', tk', os'⟩ := s'
        obtain rfl : g' = s.gens := m.gens
        obtain rfl : d' = s.drawn := m.drawn
        obtain rfl : os' = s.os := m.os
        show wpAny _ _ _ _ _ _
        refine wpAny_pure ?_
        show wpAny _ _ (ret Value.none) _ _ _
        refine wpAny_pure ⟨rfl, h', tk', rfl, T, fun b o q => ?_⟩
        have bl := Heap.lt_size q
        refine m.heap b o ?_ (Heap.get?_push_of_some _ (Heap.get?_push_of_some _ q))
        simp only [List.mem_cons, List.not_mem_nil, or_false, not_or]
        refine ⟨Nat.ne_of_lt bl, ?_⟩
        rw [zz]
        exact Nat.ne_of_lt (Nat.lt_succ_of_lt bl)
      · cases r₂ with
        | error e => exact hr₂
        | ok fl₂ =>
          cases fl₂ with
          | next => exact hr₂.elim
          | brk => exact hr₂.elim
          | cont => exact hr₂.elim
          | ret r =>
            obtain ⟨rfl, h', tk, rfl, T, k⟩ := hr₂
            repeat (any_goals (first | assumption | wp_step))
            exact h _ _ T k
/-- sorted(set of texts) -/
theorem sort_tset {a : Addr} {ys : List Str} {Q : Value → Shared → Prop} (T : TSet P w s.heap a ys) (hh : A.handled = none) (h64 : ys.length < 64)
    (hQ : ∀ s' p (out : Array Value) (c : Nat) (zs : List Str), (∀ b o, s.heap.get? b = some o → s'.heap.get? b = some o) → s'.gens = s.gens → s'.os = s.os → s.heap.objs.size ≤ p →
      s'.heap.get? p = some (seqObj "list" out c) → StrsAre out.toList zs → zs.Perm ys → sortedS zs = true → Q (.ref p) s') : wpAny (model P w) A (call (.builtin "sorted") [.ref a]) Q E s := by
  obtain ⟨o, es, ep, t, ps, e, ex, d, pm, rfl, b0, f0, r0, l0⟩ := T
  refine Calls.call_function_entry kind_sorted plain_sorted entry_sorted (args_sorted1 _) ?_
  unfold Builtin.«sorted»
  refine wpAny_bind (m := checkCount "sorted" 1 1 _) (wpAny_pure (wpAny_bind (collect_set (A := A.in1) hh ⟨o, e, ex.1, d⟩ f0 b0 r0 l0 fun s1 vs k1 z1 g1 o1 pv => ?_)))
  have pv2 : vs.Perm (ps.map fun p => Value.str p.1 p.2) := by
    have q := pm.map (·.2)
    rw [List.map_map] at q
    exact pv.trans q
  have vl : vs.length = ps.length := by rw [pv2.length_eq, List.length_map]
  rw [List.length_map] at h64
  have hS : StrsAre vs (vs.map strOf) := by
    have q : ∀ l : List Value, (∀ v ∈ l, ∃ x tk, v = Value.str x tk) → StrsAre l (l.map strOf) := by
      intro l
      induction l with
      | nil => exact fun _ => .nil
      | cons v r ih =>
        intro hv
        obtain ⟨x, tk, rfl⟩ := hv v List.mem_cons_self
        exact .cons x tk (ih fun u hu => hv u (List.mem_cons_of_mem _ hu))
    refine q vs fun v hv => ?_
    obtain ⟨p, _, rfl⟩ := List.mem_map.mp (pv2.mem_iff.mp hv)
    exact ⟨p.1, p.2, rfl⟩
  have py : (vs.map strOf).Perm (ps.map (·.1)) := by
    have q := pv2.map strOf
    rw [List.map_map] at q
    exact q
  refine wpAny_bind (wpAny_newList ?_ (by rw [vl, sizeLine_eq]; omega))
  have hoL : (s1.heap.push (seqObj "list" vs.toArray 0)).get? s1.heap.objs.size = some (seqObj "list" vs.toArray 0) := Heap.get?_push_size _ rfl
  refine wpAny_bind (wpAny_holding (wpAny_call_entry slot_list_sort ⟨_, hoL, rfl⟩ entry_list_sort (list_sort_treeK strKind_oneLt hoL hS.keysOf (fun v₁ v₂ rest q => keyKind_strs (by rw [← q]; exact hS)) (by rw [vl]; exact h64) fun st' hp hs => ⟨_, rfl, ?_⟩) (args_list_sort _)))
  obtain ⟨zs, c1, c2, c3⟩ := sorted_out_str hS hp hs
  obtain ⟨c, hc⟩ := sortedHeap_at (vs := vs) (out := (arrOf st').map (·.2)) hoL
  refine wpAny_pure ⟨_, rfl, hQ _ s1.heap.objs.size _ c zs (fun b u q0 => ?_) g1 o1 z1 hc (by simpa using c1) (c2.trans py) c3⟩
  have q1 := k1 b u q0
  have lt := Heap.lt_size q1
  show (sortedHeap (s1.heap.push (seqObj "list" vs.toArray 0)) s1.heap.objs.size vs _).get? b = some u
  rw [sortedHeap_old (Nat.ne_of_lt lt) (by rw [size_push']; exact Nat.lt_succ_of_lt lt)]
  exact Heap.get?_push_of_some _ q1
end
/-! ### over the abstract heap -/
section
variable {X : Cx}
def TSo (P : Program) (w : World) (a : Addr) (ys : List Str) : HO := .ext fun h => TSet P w h a ys
theorem tso_new {w : World} {P : Program} {H : Hp} {h : Heap} {a : Addr} {ys : List Str} (T : TSet P w h a ys) : ObjOk P w H h a (TSo P w a ys) := by
  have ⟨o, _, _, _, _, e, _⟩ := T
  exact ⟨T, ⟨o, e⟩, fun h1 h2 p k => TSet.at p k⟩
/-- set(xs) -/
def rSetT (K : PySem.W.Frag) (P : Program) (w : World) : List V → Hp → VK → Prop := fun vs H Q => ∃ (l : Addr) (xs : List Str), vs = [V.ref l] ∧ SqL K H l (xs.map V.str) ∧ xs.length < 64 ∧ ∀ a, H a = none → Q (.ref a) (upd H a (TSo P w a (once xs)))
theorem cr_setT (hc : X.calm = true) : CallR X (.type "set") (rSetT X.K X.prog X.w) := by
  intro pins s σ H vs us Q I r h
  obtain ⟨l, xs, rfl, hq, h64, q⟩ := h
  obtain ⟨its, rv, pl, hz⟩ := I.list hq
  rw [Vals.ref1 r]
  refine call_set_txt (I.ok.hd hc) pl.isList (xs := xs) (by simpa using rv.strs) (by unfold scanBound; omega) fun h' tk T k => ?_
  exact ⟨.ref _, upd H s.heap.objs.size (TSo X.prog X.w s.heap.objs.size (once xs)), I.laid (t' := tk) k (Nat.le_refl _) (tso_new T), rfl, q _ (I.hok.fresh (Nat.le_refl _))⟩
/-- len(set) -/
def rLenT2 (P : Program) (w : World) : List V → Hp → VK → Prop := fun vs H Q => ∃ (a : Addr) (ys : List Str), vs = [V.ref a] ∧ H a = some (TSo P w a ys) ∧ Q (.int (ys.length : Nat)) H
theorem cr_lenT : CallR X (.builtin "len") (rLenT2 X.prog X.w) := by
  intro pins s σ H vs us Q I r h
  obtain ⟨a, ys, rfl, ha, q⟩ := h
  have T : TSet X.prog X.w s.heap a ys := (I.hok a _ ha).1
  obtain ⟨o, es, ep, t, ps, e, ex, d, pm, rfl, b0, f0, r0, l0⟩ := T
  rw [Vals.ref1 r]
  have n : es.size = (ps.map (·.1)).length := by rw [← Array.length_toList, pm.length_eq, List.length_map, List.length_map]
  refine call_len_set e ex d f0 (by
    have z : scanBound ≤ 1000000000 := by decide
    omega) ⟨.int _, H, I.tok _, ⟨_, by rw [n]⟩, q⟩
/-- sorted(set) -/
def rSortT (P : Program) (w : World) : List V → Hp → VK → Prop := fun vs H Q => ∃ (a : Addr) (ys : List Str), vs = [V.ref a] ∧ H a = some (TSo P w a ys) ∧ ys.length < 64 ∧
  ∀ (zs : List Str) (p : Addr), zs.Perm ys → sortedS zs = true → H p = none → Q (.ref p) (upd H p (.lst (zs.map V.str)))
theorem cr_sortT (hc : X.calm = true) : CallR X (.builtin "sorted") (rSortT X.prog X.w) := by
  intro pins s σ H vs us Q I r h
  obtain ⟨a, ys, rfl, ha, h64, q⟩ := h
  have T : TSet X.prog X.w s.heap a ys := (I.hok a _ ha).1
  rw [Vals.ref1 r]
  refine sort_tset T (I.ok.hd hc) h64 fun s' p out c zs k g o hp hg hz pm so => ?_
  have hlen : (zs.map V.str).length ≤ sizeLine := by
    rw [List.length_map, pm.length_eq, sizeLine_eq]
    omega
  have hn : H p = none := I.hok.fresh hp
  have J : Inv X pins σ (upd H p (.lst (zs.map V.str))) { s with heap := s'.heap, gens := s'.gens, drawn := s'.drawn, toks := s'.toks } :=
    I.call (ch := []) (Un.laid k hp hn) (I.hok.laid k hp ⟨hlen, out.toList, c, vals_of_strs hz, hg⟩) (by rw [g] <;> exact I.bare) (fun _ z => nomatch z)
  have e : s' = { s with heap := s'.heap, gens := s'.gens, drawn := s'.drawn, toks := s'.toks } := by
    cases s'
    cases s
    cases o
    rfl
  rw [e]
  exact ⟨.ref p, _, J, rfl, q zs p pm so hn⟩
end
end L2.Ts


namespace L2.Ts
open PySem PySem.Spec PyProof.Rows L2
open AutoSeq1 (wpAny_loadPart')
/-! ### enumerate over a tuple -/
/-- what an enumerate starts from -/
abbrev enum0 (it : Addr) : Obj := { cls := .type "enumerate", data := .fields #[.none, .bool false, .ref it, rawInt 0, .none, .none] }
abbrev tupIt (l : Addr) : Obj := { cls := .type "tuple_iterator", data := .fields #[.ref l, .int 0 0] }
theorem meets_enumT (l : Addr) (items : Array Value) (n : Nat) (dct : Option Addr) (sl : Array (Option Value)) :
    Meets (Builtin.«enumerate.__new__» ⟨[.type "enumerate", .ref l], []⟩) (fun _ R s => s.heap.get? l = some { cls := .type "tuple", dict := dct, data := .seq items n, slots := sl } ∧
      R (.ok (.ret (.ref (s.heap.push (tupIt l)).objs.size))) { s with heap := (s.heap.push (tupIt l)).push (enum0 s.heap.objs.size) }) :=
  .of_wp fun prog w A R s h => by
    obtain ⟨hp, g, d, tk, os⟩ := s
    obtain ⟨hl, h⟩ := h
    have y1 := sub_enumerate
    have y2 : Heap.IsTuple (Shared.heap ⟨hp, g, d, tk, os⟩) l items := ⟨_, hl, rfl, n, rfl⟩
    wp_walk using wpAny_loadPart' hl
    refine wpAny_stack_any fun st => wpAny_pure ?_
    split
    · rename_i c _ _ _ _ _
      cases (c == Value.type "enumerate") <;> (wp_walk using wpAny_loadPart' hl, wpAny_pyIter_tuple y2; exact ⟨_, rfl, h⟩)
    · wp_walk using wpAny_loadPart' hl, wpAny_pyIter_tuple y2
      exact ⟨_, rfl, h⟩
section
variable {P : Program} {w : World} {A : Around} {E : Value → Shared → Prop} {s : Shared}
theorem call_enumT {l : Addr} {items : Array Value} {Q : Value → Shared → Prop} (hT : s.heap.IsTuple l items)
    (h : ∀ h', IsEnum h' (s.heap.objs.size + 1) s.heap.objs.size 0 .none → h'.IsTupleIter s.heap.objs.size l 0 → h'.objs.size = s.heap.objs.size + 2 → (∀ b o, s.heap.get? b = some o → h'.get? b = some o) → Q (.ref (s.heap.objs.size + 1)) { s with heap := h' }) :
    wpAny (model P w) A (call (.type "enumerate") [.ref l]) Q E s := by
  obtain ⟨⟨c, dct, dt, sl⟩, hl, hc, n, hd⟩ := hT
  replace hc : c = .type "tuple" := hc
  replace hd : dt = .seq items n := hd
  subst hc hd
  refine callType_new F.called_enumerate (by decide) (F.typeCall_enumerate_1 _) (F.newCall_enumerate_1 _) (fun obj => F.args_object_init_2 obj _) F.entry_enumerate_new (meets_enumT l items n dct sl) ⟨hl, ?_⟩
  have zz : (s.heap.push (tupIt l)).objs.size = s.heap.objs.size + 1 := Heap.size_push ..
  show _ ∧ _
  rw [zz]
  have en : IsEnum ((s.heap.push (tupIt l)).push (enum0 s.heap.objs.size)) (s.heap.objs.size + 1) s.heap.objs.size 0 .none := by
    have q := Heap.get?_push_size (s.heap.push (tupIt l)) (o := enum0 s.heap.objs.size) rfl
    rw [zz] at q
    exact q
  exact ⟨⟨_, en, rfl⟩, h _ en ⟨_, Heap.get?_push_of_some _ (Heap.get?_push_size _ rfl), rfl, rfl⟩ (by rw [Heap.size_push, zz]) fun b o x => Heap.get?_push_of_some _ (Heap.get?_push_of_some _ x)⟩
end
/-- the tuple at a as it stands at each turn, each item in a new pair -/
def IteT (K : PySem.W.Frag) (a : Addr) : It :=
  ⟨fun i H => ∃ (xs : List V) (x : V), SqT K H a xs ∧ xs[i]? = some x, fun i H v H' => ∃ T x, v = .ref T ∧ H T = none ∧ H' = upd H T (.tup [.int (i : Nat), x]) ∧ ∀ xs, SqT K H a xs → xs[i]? = some x, fun i H => ∃ xs : List V, SqT K H a xs ∧ xs.length ≤ i⟩
theorem turn_enumT {P : Program} {w : World} {K : PySem.W.Frag} {elts : List Expr} {kk : Nat} {tpos : Pos} (a e it : Addr) :
    Turn P w K (.Tuple elts kk tpos) (IteT K a) [e, it] e (fun i h => (∃ old, IsEnum h e it ((i : Nat) : Int) old) ∧ h.IsTupleIter it a i ∧ e ≠ it) where
  mem := by simp
  obj := fun i h st b hb => by
    obtain ⟨⟨old, he⟩, ⟨o, ho, hc, hd⟩, _⟩ := st
    rcases (show b = e ∨ b = it by simpa using hb) with z | z
    · subst z
      exact ⟨_, he, fun v q => nomatch q⟩
    · subst z
      exact ⟨o, ho, fun v q => by rw [hd] at q; cases q⟩
  keep := fun i h h' st k => let ⟨⟨old, he⟩, hi, ne⟩ := st; ⟨⟨old, k e (by simp) _ he⟩, hi.at fun o q => k it (by simp) o q, ne⟩
  item := by
    intro X hP hw hK hc i pins s σ H E I hf st hg
    subst hP hw hK
    obtain ⟨⟨old, he⟩, hit, ne⟩ := st
    obtain ⟨xs, x, hq, hx⟩ := hg
    obtain ⟨its, rv, p, hz⟩ := I.tuple hq
    obtain ⟨u, hu, ru⟩ := rv.get hx
    have lte : e < s.heap.objs.size := Heap.lt_size he
    have lti : it < s.heap.objs.size := by obtain ⟨_, q, _⟩ := hit; exact Heap.lt_size q
    have tne : a ≠ it := fun z => by
      obtain ⟨o1, q1, c1, _⟩ := hit
      obtain ⟨o2, q2, c2, _⟩ := (show s.heap.IsTuple a its.toArray from p)
      rw [z, q1] at q2
      obtain rfl := Option.some.inj q2
      rw [c1] at c2
      injection c2 with c3
      exact absurd c3 (by decide)
    have ane : a ≠ e := fun z => by
      obtain ⟨o2, q2, c2, _⟩ := (show s.heap.IsTuple a its.toArray from p)
      have q1 : s.heap.get? e = _ := he
      rw [z, q1] at q2
      obtain rfl := Option.some.inj q2
      injection c2 with c3
      exact absurd c3 (by decide)
    have il : i < its.toArray.size := by
      have q := (List.getElem?_eq_some_iff.mp hu).1
      simpa using q
    have D := Draws.tuple (prog := X.prog) (w := X.w) (A := X.A.in1) (by simpa using I.ok.hd hc) it a tne its.toArray
    refine wpAny_pyNext_enum_itemD D he ⟨hit, (show s.heap.IsTuple a its.toArray from p)⟩ il ne (by simp; exact ⟨ne, fun z => ane z.symm⟩) fun y h' tk hy ho hst hT hsz hk => ?_
    obtain ⟨hit', htu'⟩ := hst
    have eyu : y = u := by
      have q : its.toArray[i]? = some u := by simpa using hu
      have q2 : its.toArray[i]? = some y := hy
      rw [q] at q2
      exact (Option.some.inj q2).symm
    subst eyu
    refine ⟨_, rfl, wpAny_letOwnedTupleGo_enum (s := { s with heap := h', toks := tk + 1 }) ho fun h'' he' sb => ?_⟩
    have hT2 : h''.get? s.heap.objs.size = some { cls := .type "tuple", data := .seq #[.int i tk, y] } := (sb.2 _ (Nat.ne_of_gt lte)).trans hT
    have new : ObjOk X.prog X.w (upd H s.heap.objs.size (.tup [.int (i : Nat), x])) h'' s.heap.objs.size (.tup [.int (i : Nat), x]) :=
      ⟨by show 2 ≤ sizeLine; decide, [.int i tk, y], .cons ⟨_, rfl⟩ (.cons ru .nil), ⟨_, hT2, rfl, _, rfl⟩⟩
    have I1 : Inv X pins σ (upd H s.heap.objs.size (.tup [.int (i : Nat), x])) { s with heap := h'', toks := tk + 1 } :=
      I.turnedNew (ch := [e, it]) (fun b ob hb q => (sb.2 b (fun z => hb (by simp [z]))).trans (hk b ob (fun z => hb (by simp [z])) (fun z => hb (by simp [z])) q)) hf (Nat.le_refl _) new
    refine ⟨.ref s.heap.objs.size, _, I1, rfl, ⟨_, x, rfl, I.hok.fresh (Nat.le_refl _), rfl, fun ys hy => by rw [I.tuple_inj hy hq]; exact hx⟩, ⟨⟨y, ?_⟩, hit'.at fun o q => (sb.2 it (Ne.symm ne)).trans q, ne⟩, fun b hb => ?_⟩
    · have e1 : ((i + 1 : Nat) : Int) = (i : Int) + 1 := by omega
      rw [e1]
      exact he'
    · have hb' : b < s.heap.objs.size := by
        rcases (show b = e ∨ b = it by simpa using hb) with z | z
        · exact z ▸ lte
        · exact z ▸ lti
      rw [upd_ne (Nat.ne_of_lt hb')]
      exact (hf b hb).1
  done := by
    intro X hP hw hK hc i pins s σ H E I hf st hg
    subst hP hw hK
    obtain ⟨⟨old, he⟩, hit, ne⟩ := st
    obtain ⟨xs, hq, hx⟩ := hg
    obtain ⟨its, rv, p, hz⟩ := I.tuple hq
    obtain ⟨f0, f1, f2, f3, f4, f5⟩ := hf it (by simp)
    have hT : s.TypeIs (.ref e) "enumerate" := ⟨_, he, rfl⟩
    have ln := rv.length
    have nx : its.toArray[i]? = none := by
      simp
      omega
    unfold pyNext
    refine wpAny_bind (wpAny_attempt (wpAny_callSpecial?_slot (name := Str.ofString "__next__") hT F.slot_enumerate_next (wpAny_call_entry F.slot_enumerate_next hT F.entry_enumerate_next ?_ (F.args_enumerate_next_1 _))))
    show wpAny _ _ (field (.ref e) 2 >>= _) _ _ _
    refine wpAny_bind (wpAny_field he rfl (x := .ref it) rfl (wpAny_bind (wpAny_nextOf_tuple_end (by simpa using I.ok.hd hc) hit (show s.heap.IsTuple a its.toArray from p) nx fun h' x eb hx' => ?_)))
    obtain ⟨o, ho, hcl⟩ := hx'
    exact wpAny_bind (wpAny_isInstance (T := "StopIteration") (b := true) ⟨o, ho, hcl⟩ isSubtype_stop (wpAny_pure ⟨rfl, I.turned (t' := s.toks) (fun b o hb q => eb b o hb q) f0 f1 f3 f4 f5⟩))
  self := fun A i s Q E st h => let ⟨⟨_, he⟩, _⟩ := st; wpAny_pyIter_enum he h
section
variable {X : Cx} {e : Expr} {ta : TA} {p pos tpos : Pos} {elts : List Expr} {kk : Nat}
def iEnumT (K : PySem.W.Frag) (ta : TA) : TI := fun σ H R => ta σ H fun vs H1 => ∃ a xs, vs = [.ref a] ∧ SqT K H1 a xs ∧ R (IteT K a) H1
theorem pi_enumT (hg : Gl X "enumerate") (hm : X.mg "enumerate" = none) (ha : PA X [e] ta) (hs : starEach [e] X.env = [(false, eval e X.env)] := by rfl) : PI X (.Tuple elts kk tpos) (.Call (.Name "enumerate" p) [e] [] pos) (iEnumT X.K ta) := by
  refine ⟨fun pins s σ H R I h => ?_⟩
  refine Call_ (ld_blt I hg hm boot_enumerate (PyProof.Rows.callWith_type1 (thn (ha.run pos pins s σ H _ I h) fun us s1 ⟨vs, H1, I1, r1, a, xs, ex, hq, q⟩ => ?_) hs rfl))
  subst ex
  rw [Vals.ref1 r1]
  obtain ⟨its, rv, pt, hz⟩ := I1.tuple hq
  refine call_enumT (show s1.heap.IsTuple a its.toArray from pt) fun h' he hit hsz hk => wpAny_pyIter_enum he ?_
  have I2 : Inv X pins σ H1 { s1 with heap := h' } := I1.kept (t' := s1.toks) hk
  refine ⟨s1.heap.objs.size + 1, [s1.heap.objs.size + 1, s1.heap.objs.size], _, _, H1, rfl, I2, turn_enumT a (s1.heap.objs.size + 1) s1.heap.objs.size, ⟨⟨.none, he⟩, hit, Nat.succ_ne_self _⟩, fun b hb => ?_, q⟩
  have le : s1.heap.objs.size ≤ b := by
    rcases (show b = s1.heap.objs.size + 1 ∨ b = s1.heap.objs.size by simpa using hb) with z | z
    · exact z ▸ Nat.le_add_right _ _
    · exact z ▸ Nat.le_refl _
  exact I1.fpOk le (I1.hok.fresh le)
end
end L2.Ts


namespace L2.Bv
open PySem L2
/-! ### what stands, but for some places -/
/-- what stands outside of S stays -/
def KS (S : Addr → Prop) (H H' : Hp) : Prop := ∀ x o, ¬ S x → H x = some o → H' x = some o
/-- S and one place more -/
def ins (S : Addr → Prop) (D : Addr) : Addr → Prop := fun x => S x ∨ x = D
/-- no place -/
def noS : Addr → Prop := fun _ => False
/-- S is taken -/
def Al (S : Addr → Prop) (H : Hp) : Prop := ∀ x, S x → H x ≠ none
/-- P, and it stays whatever happens at S -/
def St' (S : Addr → Prop) (H : Hp) (P : Hp → Prop) : Prop := ∀ H', KS S H H' → P H'
section
variable {S S' : Addr → Prop} {H H' H1 H2 : Hp} {D p : Addr} {o : HO} {P Q : Hp → Prop}
theorem KS.refl : KS S H H := fun _ _ _ h => h
theorem KS.trans (a : KS S H H1) (b : KS S H1 H2) : KS S H H2 := fun x o n h => b x o n (a x o n h)
theorem KS.sub (h : ∀ x, S x → S' x) (a : KS S H H') : KS S' H H' := fun x o n e => a x o (fun z => n (h x z)) e
theorem KS.new (h : H p = none) : KS S H (upd H p o) := fun x u _ e => by
  rw [upd_ne (ne_of_none e h)]
  exact e
theorem KS.onto (a : KS S H H') (h : H p = none) : KS S H (upd H' p o) := fun x u n e => by
  rw [upd_ne (ne_of_none e h)]
  exact a x u n e
theorem KS.atS (h : S p) : KS S H (upd H p o) := fun x u n e => by
  have ne : x ≠ p := fun z => n (by rw [z]; exact h)
  rw [upd_ne ne]
  exact e
theorem KS.same (a : KS noS H H') : Same H H' := fun x o e => a x o (fun z => z) e
theorem KS.of (a : Same H H') : KS S H H' := fun x o _ e => a x o e
theorem KS.free (a : KS S H H') (al : Al S H') (h : H' p = none) : H p = none := by
  cases e : H p with
  | none => rfl
  | some o =>
    by_cases s : S p
    · exact absurd h (al p s)
    · rw [a p o s e] at h
      cases h
theorem Al.off (al : Al S H) (h : H p = none) : ¬ S p := fun z => al p z h
theorem Al.empty : Al noS H := fun _ z => z.elim
theorem insSub : ∀ x, S x → ins S D x := fun _ h => .inl h
theorem St'.now (h : St' S H P) : P H := h H KS.refl
theorem St'.go (h : St' S H P) (k : KS S H H') : St' S H' P := fun H2 k2 => h H2 (k.trans k2)
theorem St'.sub (h : ∀ x, S x → S' x) (q : St' S' H P) : St' S H P := fun H2 k2 => q H2 (k2.sub h)
theorem St'.grow (h : St' S H P) (f : H p = none) : St' (ins S p) (upd H p o) P := fun H2 k2 => h H2 fun x u n e => by
  have ne := ne_of_none e f
  refine k2 x u (fun z => z.elim n ne) ?_
  rw [upd_ne ne]
  exact e
theorem St'.mono (h : St' S H P) (f : ∀ H', P H' → Q H') : St' S H Q := fun H2 k => f H2 (h H2 k)
theorem St'.both (h : St' S H P) (q : St' S H Q) : St' S H fun H' => P H' ∧ Q H' := fun H2 k => ⟨h H2 k, q H2 k⟩
theorem St'.pure {φ : Prop} (h : φ) : St' S H fun _ => φ := fun _ _ => h
theorem St'.cell (e : H p = some o) (n : ¬ S p) : St' S H fun H' => H' p = some o := fun H2 k => k p o n e
theorem St'.sqT {K : PySem.W.Frag} {xs : List V} (e : H p = some (.tup xs)) (n : ¬ S p) : St' S H fun H' => SqT K H' p xs := fun H2 k => SqT.of (k p _ n e)
theorem St'.sqL {K : PySem.W.Frag} {xs : List V} (e : H p = some (.lst xs)) (n : ¬ S p) : St' S H fun H' => SqL K H' p xs := fun H2 k => SqL.of (k p _ n e)
end
/-- the turns at which f holds -/
def idx (f : Nat → Bool) (n : Nat) : List Nat := (List.range n).filter f
theorem idx_succ (f : Nat → Bool) (n : Nat) : idx f (n + 1) = if f n = true then idx f n ++ [n] else idx f n := by
  unfold idx
  rw [List.range_succ, List.filter_append]
  by_cases h : f n = true
  · rw [if_pos h, List.filter_cons_of_pos h]
    rfl
  · rw [if_neg h, List.filter_cons_of_neg h, List.filter_nil, List.append_nil]
theorem idx_len (f : Nat → Bool) (n : Nat) : (idx f n).length ≤ n := by
  unfold idx
  refine Nat.le_trans (List.length_filter_le _ _) ?_
  rw [List.length_range]
  exact Nat.le_refl _
theorem idx_all (n : Nat) : idx (fun _ => true) n = List.range n := by
  unfold idx
  exact List.filter_eq_self.mpr fun _ _ => rfl
/-- the items of a list of what is drawn from the turns: by turn -/
def ItemsBy (T : Addr → Prop) (H : Hp) (R : Nat → V → Hp → Prop) (ks : List Nat) (acc : List V) : Prop := acc.length = ks.length ∧ ∀ (j : Nat) (v : V), acc[j]? = some v → ∃ k, ks[j]? = some k ∧ St' T H (R k v)
theorem ItemsBy.go {T : Addr → Prop} {H H' : Hp} {R : Nat → V → Hp → Prop} {ks : List Nat} {acc : List V} (h : ItemsBy T H R ks acc) (k : KS T H H') : ItemsBy T H' R ks acc :=
  ⟨h.1, fun j v e => let ⟨i, a, b⟩ := h.2 j v e; ⟨i, a, b.go k⟩⟩
theorem ItemsBy.sub {T T' : Addr → Prop} {H : Hp} {R : Nat → V → Hp → Prop} {ks : List Nat} {acc : List V} (h : ItemsBy T' H R ks acc) (k : ∀ x, T x → T' x) : ItemsBy T H R ks acc :=
  ⟨h.1, fun j v e => let ⟨i, a, b⟩ := h.2 j v e; ⟨i, a, b.sub k⟩⟩
theorem ItemsBy.flat {T : Addr → Prop} {H : Hp} {fv : Nat → V} {ks : List Nat} {acc : List V} (h : ItemsBy T H (fun k v _ => v = fv k) ks acc) : acc = ks.map fv := by
  refine List.ext_getElem? fun j => ?_
  rw [List.getElem?_map]
  cases e : acc[j]? with
  | none =>
    have q := List.getElem?_eq_none_iff.mp e
    rw [h.1] at q
    rw [List.getElem?_eq_none_iff.mpr q]
    rfl
  | some v =>
    obtain ⟨k, a, b⟩ := h.2 j v e
    rw [a]
    exact congrArg some b.now
/-- a comprehension: its items by the turns that it takes -/
theorem lcG {J : It} {n : Nat} {G : Hp → Prop} {Y : Nat → Hp → V → Hp → Prop} (w : Walk J n G Y) {g : TG} {tt : TT} {te : TE} {vs : List Nat} {σ : St} {H1 : Hp} {D : Addr} {Qd : Hp → Prop} (S : Addr → Prop) (I : Hp → Prop) (f : Nat → Bool) (R : Nat → V → Hp → Prop)
    (hD : H1 D = none) (al : Al S H1) (hI : ∀ H o, I H → ¬ S D → I (upd H D o)) (i1 : I H1) (hn : n ≤ 1000) (hG : ∀ H, KS S H1 H → G H)
    (hs : ∀ (i : Nat) (x : V) (H H' : Hp) (KT : V → Hp → Prop) (KF : Hp → Prop), i < n → KS S H1 H → I H → (∃ acc, H D = some (.lst acc)) → Y i H x H' → (∀ v H4, f i = true → KS S H H4 → I H4 → St' (ins S D) H4 (R i v) → KT v H4) → (∀ H4, f i = false → KS S H H4 → I H4 → KF H4) →
      g x (wipe σ vs) H' fun σ2 H2 => wipe σ2 vs = wipe σ vs ∧ tt σ2 H2 fun b H3 => if b = true then te σ2 H3 KT else KF H3)
    (hd : ∀ H acc, KS S H1 H → I H → H D = some (.lst acc) → ItemsBy (ins S D) H R (idx f n) acc → Qd H) :
    ∃ W : Nat → Nat → Hp → Prop, (∃ m, W 0 m (upd H1 D (.lst []))) ∧ ∀ i m H, W i m H → (J.stop i H ∧ Qd H) ∨ (J.go i H ∧ ∃ Nx : Hp → Prop, (∀ H', Nx H' → ∃ m', m' < m ∧ W (i + 1) m' H') ∧ ∀ x H', J.yld i H x H' → g x (wipe σ vs) H' fun σ2 H2 => wipe σ2 vs = wipe σ vs ∧ tt σ2 H2 fun b H3 => if b = true then te σ2 H3 fun y H4 => ∃ acc, H4 D = some (.lst acc) ∧ acc.length < sizeLine ∧ Nx (upd H4 D (.lst (acc ++ [y]))) else Nx H3) := by
  have off : ¬ S D := al.off hD
  refine lc_it w (fun i H => KS S H1 H ∧ I H ∧ ∃ acc, H D = some (.lst acc) ∧ ItemsBy (ins S D) H R (idx f i) acc) ?_ ?_ ?_ ?_
  · exact ⟨KS.new hD, hI _ _ i1 off, [], upd_same, rfl, fun j v e => by cases e⟩
  · rintro i H _ ⟨k, -, -⟩
    exact hG H k
  · rintro i x H H' hi ⟨k, iv, acc, e, hb⟩ y
    refine hs i x H H' _ _ hi k iv ⟨acc, e⟩ y (fun v H4 hf k4 i4 hr => ⟨acc, k4 D _ off e, ?_, ?_⟩) (fun H4 hf k4 i4 => ?_)
    · have q := idx_len f i
      rw [← hb.1] at q
      exact small1000 (by omega)
    · have kk : KS (ins S D) H (upd H4 D (.lst (acc ++ [v]))) := (k4.sub insSub).trans (KS.atS (.inr rfl))
      refine ⟨(k.trans k4).onto hD, hI _ _ i4 off, acc ++ [v], upd_same, ?_, fun j u hj => ?_⟩
      · rw [idx_succ, if_pos hf, List.length_append, List.length_append, hb.1]
        rfl
      · rw [idx_succ, if_pos hf]
        by_cases lt : j < acc.length
        · rw [List.getElem?_append_left lt] at hj
          obtain ⟨q, a, b⟩ := hb.2 j u hj
          refine ⟨q, ?_, b.go kk⟩
          rw [List.getElem?_append_left (by rw [← hb.1]; exact lt)]
          exact a
        · have je : j = acc.length := by
            have q := (List.getElem?_eq_some_iff.mp hj).1
            rw [List.length_append] at q
            have q2 : [v].length = 1 := rfl
            omega
          subst je
          rw [List.getElem?_append_right (Nat.le_refl _), Nat.sub_self] at hj
          obtain rfl : v = u := Option.some.inj hj
          refine ⟨i, ?_, hr.go (KS.atS (.inr rfl))⟩
          rw [hb.1, List.getElem?_append_right (Nat.le_refl _), Nat.sub_self]
          rfl
    · refine ⟨k.trans k4, i4, acc, k4 D _ off e, ?_⟩
      rw [idx_succ, if_neg (by rw [hf]; exact Bool.noConfusion)]
      exact hb.go (k4.sub insSub)
  · rintro H ⟨k, iv, acc, e, hb⟩
    exact hd H acc k iv e hb
/-- enumerate of a tuple, walked -/
theorem walk_enumT {K : PySem.W.Frag} {a : Addr} {xs : List V} : Walk (L2.Ts.IteT K a) xs.length (fun H => SqT K H a xs) (YPair (fun i => some (.int (i : Nat))) (fun i => xs[i]?)) := by
  refine ⟨fun i _ hi q => ⟨xs, xs[i], q, by simp [hi]⟩, fun _ q => ⟨xs, q, Nat.le_refl _⟩, fun i H v H' _ q y => ?_⟩
  obtain ⟨T, x, h1, h2, h3, h4⟩ := y
  exact ⟨T, .int (i : Nat), x, h1, h2, h3, rfl, h4 xs q⟩
end L2.Bv


namespace L2.Pc
open PySem L2 L2.Bv
/-! ### notes and what lies under them: no Python here -/
/-- a note: its name, its hand, what it waits for -/
abbrev Nt := Str × Str × List Str
def nameAt (ns : List Nt) (i : Nat) : Str := (ns.getD i (Str.empty, Str.empty, [])).1
def handAt (ns : List Nt) (i : Nat) : Str := (ns.getD i (Str.empty, Str.empty, [])).2.1
def waitAt (ns : List Nt) (i : Nat) : List Str := (ns.getD i (Str.empty, Str.empty, [])).2.2
/-- k stands right under j: waited for, or the newest earlier one of the same hand -/
def Dir (ns : List Nt) (k j : Nat) : Prop := k < j ∧ (nameAt ns k ∈ waitAt ns j ∨ (handAt ns k = handAt ns j ∧ ∀ l, k < l → l < j → handAt ns l ≠ handAt ns j))
/-- i lies under j -/
inductive Und (ns : List Nt) : Nat → Nat → Prop where
  | self (i : Nat) : Und ns i i
  | step {i k j : Nat} : Und ns i k → Dir ns k j → Und ns i j
section
variable {ns : List Nt} {i j k n : Nat}
theorem Und.le (h : Und ns i j) : i ≤ j := by
  induction h with
  | self => exact Nat.le_refl _
  | step _ d ih => exact Nat.le_trans ih (Nat.le_of_lt d.1)
theorem Und.trans (a : Und ns i j) (b : Und ns j k) : Und ns i k := by
  induction b with
  | self => exact a
  | step _ d ih => exact .step ih d
theorem und_iff : Und ns i j ↔ i = j ∨ ∃ k, Dir ns k j ∧ Und ns i k := by
  constructor
  · intro h
    cases h with
    | self => exact .inl rfl
    | step a d => exact .inr ⟨_, d, a⟩
  · rintro (rfl | ⟨k, d, a⟩)
    · exact .self _
    · exact .step a d
theorem Und.anti (a : Und ns i j) (b : Und ns j i) : i = j := Nat.le_antisymm a.le b.le
/-- the newest earlier one of a hand -/
theorem newest (h : Str) : ∀ j, (∃ k, k < j ∧ handAt ns k = h) → ∃ k, k < j ∧ handAt ns k = h ∧ ∀ l, k < l → l < j → handAt ns l ≠ h := by
  intro j
  induction j with
  | zero =>
    rintro ⟨k, lt, _⟩
    omega
  | succ j ih =>
    rintro ⟨k, lt, e⟩
    by_cases c : handAt ns j = h
    · exact ⟨j, Nat.lt_succ_self j, c, fun l a b => absurd a (by omega)⟩
    · have kj : k < j := by
        rcases Nat.lt_or_ge k j with q | q
        · exact q
        · have q2 : k = j := by omega
          exact absurd (q2 ▸ e) c
      obtain ⟨m, a1, a2, a3⟩ := ih ⟨k, kj, e⟩
      refine ⟨m, Nat.lt_succ_of_lt a1, a2, fun l b1 b2 => ?_⟩
      by_cases lj : l = j
      · rw [lj]
        exact c
      · exact a3 l b1 (by omega)
theorem own_chain (h : Str) : ∀ j i, i ≤ j → handAt ns i = h → handAt ns j = h → Und ns i j := by
  intro j
  induction j using Nat.strongRecOn with
  | ind j ih =>
    intro i le ei ej
    by_cases c : i = j
    · rw [c]
      exact .self _
    · obtain ⟨k, a1, a2, a3⟩ := newest (ns := ns) h j ⟨i, by omega, ei⟩
      have ik : i ≤ k := by
        rcases Nat.lt_or_ge k i with q | q
        · exact absurd ei (a3 i q (by omega))
        · exact q
      exact .step (ih k a1 i ik ei a2) ⟨a1, .inr ⟨a2.trans ej.symm, fun l b1 b2 => by rw [ej]; exact a3 l b1 b2⟩⟩
end
open Classical in
noncomputable def und (ns : List Nt) (i j : Nat) : Bool := decide (Und ns i j)
theorem und_t {ns : List Nt} {i j : Nat} : und ns i j = true ↔ Und ns i j := by
  unfold und
  exact @decide_eq_true_iff _ (Classical.propDecidable _)
def own (ns : List Nt) (h : Str) (i : Nat) : Bool := decide (handAt ns i = h)
theorem own_t {ns : List Nt} {h : Str} {i : Nat} : own ns h i = true ↔ handAt ns i = h := by
  unfold own
  exact decide_eq_true_iff
/-! ### counting turns -/
theorem idx_le {f g : Nat → Bool} : ∀ {n : Nat}, (∀ k, k < n → f k = true → g k = true) → (idx f n).length ≤ (idx g n).length
  | 0, _ => Nat.le_refl _
  | n + 1, h => by
    have q := idx_le (f := f) (g := g) (n := n) fun k lt => h k (Nat.lt_succ_of_lt lt)
    rw [idx_succ, idx_succ]
    by_cases c : f n = true
    · rw [if_pos c, if_pos (h n (Nat.lt_succ_self n) c), List.length_append, List.length_append]
      exact Nat.add_le_add_right q _
    · rw [if_neg c]
      split
      · rw [List.length_append]
        omega
      · exact q
theorem idx_lt {f g : Nat → Bool} : ∀ {n : Nat}, (∀ k, k < n → f k = true → g k = true) → (∃ k, k < n ∧ f k = false ∧ g k = true) → (idx f n).length < (idx g n).length
  | 0, _, ⟨k, lt, _⟩ => absurd lt (by omega)
  | n + 1, h, ⟨k, lt, fk, gk⟩ => by
    have le := idx_le (f := f) (g := g) (n := n) fun k lt => h k (Nat.lt_succ_of_lt lt)
    rw [idx_succ, idx_succ]
    by_cases kn : k = n
    · subst kn
      rw [if_neg (by rw [fk]; exact Bool.noConfusion), if_pos gk, List.length_append]
      exact Nat.lt_succ_of_le le
    · have q := idx_lt (f := f) (g := g) (n := n) (fun k lt => h k (Nat.lt_succ_of_lt lt)) ⟨k, by omega, fk, gk⟩
      by_cases c : f n = true
      · rw [if_pos c, if_pos (h n (Nat.lt_succ_self n) c), List.length_append, List.length_append]
        exact Nat.add_lt_add_right q _
      · rw [if_neg c]
        split
        · rw [List.length_append]
          omega
        · exact q
theorem idx_and (f g : Nat → Bool) (n : Nat) : (idx f n).filter g = idx (fun k => f k && g k) n := by
  unfold idx
  rw [List.filter_filter]
  congr 1
  funext k
  exact Bool.and_comm _ _
theorem idx_congr {f g : Nat → Bool} {n : Nat} (h : ∀ k, k < n → f k = g k) : idx f n = idx g n := by
  unfold idx
  exact List.filter_congr fun k hk => h k (List.mem_range.mp hk)
theorem mem_idx {f : Nat → Bool} {n k : Nat} : k ∈ idx f n ↔ k < n ∧ f k = true := by
  unfold idx
  rw [List.mem_filter, List.mem_range]
theorem idx_sorted (f : Nat → Bool) (n : Nat) : (idx f n).Pairwise (· < ·) := by
  unfold idx
  exact (List.pairwise_lt_range).filter _
/-- the clock's number for a hand, the next level for a hand -/
noncomputable def clk (ns : List Nt) (h : Str) (j : Nat) : Nat := (idx (fun k => own ns h k && und ns k j) ns.length).length
noncomputable def nlv (ns : List Nt) (h : Str) (j : Nat) : Nat := (idx (fun k => own ns h k && !und ns j k) ns.length).length
section
variable {ns : List Nt} {i j : Nat} {hands : List Str}
theorem and_t {a b : Bool} : (a && b) = true ↔ a = true ∧ b = true := by
  cases a <;> cases b <;> simp
theorem not_t {a : Bool} : (!a) = true ↔ ¬ a = true := by
  cases a <;> simp
theorem clk_lt (hi : i < ns.length) (h : ¬ Und ns i j) : clk ns (handAt ns i) j < clk ns (handAt ns i) i := by
  refine idx_lt (fun k lt q => ?_) ⟨i, hi, ?_, ?_⟩
  · obtain ⟨a, b⟩ := and_t.mp q
    have a := own_t.mp a
    have b := und_t.mp b
    refine and_t.mpr ⟨own_t.mpr a, und_t.mpr ?_⟩
    rcases Nat.le_total k i with z | z
    · exact own_chain _ i k z a rfl
    · exact absurd ((own_chain _ k i z rfl a).trans b) h
  · cases e : (own ns (handAt ns i) i && und ns i j) with
    | false => rfl
    | true => exact absurd (und_t.mp (and_t.mp e).2) h
  · exact and_t.mpr ⟨own_t.mpr rfl, und_t.mpr (.self _)⟩
theorem clk_le (h : Und ns i j) (x : Str) : clk ns x i ≤ clk ns x j := idx_le fun k _ q => by
  obtain ⟨a, b⟩ := and_t.mp q
  exact and_t.mpr ⟨a, und_t.mpr ((und_t.mp b).trans h)⟩
theorem clk_tells (hi : i < ns.length) (ho : handAt ns i ∈ hands) : (∀ h ∈ hands, clk ns h i ≤ clk ns h j) ↔ Und ns i j := by
  constructor
  · intro q
    by_cases c : Und ns i j
    · exact c
    · exact absurd (q _ ho) (Nat.not_le_of_lt (clk_lt hi c))
  · exact fun c h _ => clk_le c h
theorem nlv_lt (hj : j < ns.length) (h : ¬ Und ns i j) : nlv ns (handAt ns j) j < nlv ns (handAt ns j) i := by
  refine idx_lt (fun k lt q => ?_) ⟨j, hj, ?_, ?_⟩
  · obtain ⟨a, b⟩ := and_t.mp q
    have a := own_t.mp a
    have b : ¬ Und ns j k := fun z => not_t.mp b (und_t.mpr z)
    refine and_t.mpr ⟨own_t.mpr a, not_t.mpr fun z => ?_⟩
    rcases Nat.le_total j k with q | q
    · exact b (own_chain _ k j q rfl a)
    · exact h ((und_t.mp z).trans (own_chain _ j k q a rfl))
  · cases e : (own ns (handAt ns j) j && !und ns j j) with
    | false => rfl
    | true => exact absurd (und_t.mpr (.self _)) (not_t.mp (and_t.mp e).2)
  · exact and_t.mpr ⟨own_t.mpr rfl, not_t.mpr fun z => h (und_t.mp z)⟩
theorem nlv_le (h : Und ns i j) (x : Str) : nlv ns x i ≤ nlv ns x j := idx_le fun k _ q => by
  obtain ⟨a, b⟩ := and_t.mp q
  exact and_t.mpr ⟨a, not_t.mpr fun z => not_t.mp b (und_t.mpr (h.trans (und_t.mp z)))⟩
theorem nlv_tells (hj : j < ns.length) (ho : handAt ns j ∈ hands) : (∀ h ∈ hands, nlv ns h i ≤ nlv ns h j) ↔ Und ns i j := by
  constructor
  · intro q
    by_cases c : Und ns i j
    · exact c
    · exact absurd (q _ ho) (Nat.not_le_of_lt (nlv_lt hj c))
  · exact fun c h _ => nlv_le c h
theorem clk_same (hi : i < ns.length) (hj : j < ns.length) (oi : handAt ns i ∈ hands) (oj : handAt ns j ∈ hands) : hands.map (fun h => clk ns h i) = hands.map (fun h => clk ns h j) ↔ i = j := by
  constructor
  · intro e
    have q : ∀ h ∈ hands, clk ns h i = clk ns h j := List.map_inj_left.mp e
    exact ((clk_tells hi oi).mp fun h z => Nat.le_of_eq (q h z)).anti ((clk_tells hj oj).mp fun h z => Nat.le_of_eq (q h z).symm)
  · rintro rfl
    rfl
theorem nlv_same (hi : i < ns.length) (hj : j < ns.length) (oi : handAt ns i ∈ hands) (oj : handAt ns j ∈ hands) : hands.map (fun h => nlv ns h i) = hands.map (fun h => nlv ns h j) ↔ i = j := by
  constructor
  · intro e
    have q : ∀ h ∈ hands, nlv ns h i = nlv ns h j := List.map_inj_left.mp e
    exact ((nlv_tells hj oj).mp fun h z => Nat.le_of_eq (q h z)).anti ((nlv_tells hi oi).mp fun h z => Nat.le_of_eq (q h z).symm)
  · rintro rfl
    rfl
theorem clk_first (h0 : 0 < ns.length) (h : Str) : clk ns h 0 = if handAt ns 0 = h then 1 else 0 := by
  have e : idx (fun k => own ns h k && und ns k 0) ns.length = idx (fun k => decide (k = 0) && own ns h 0) ns.length := idx_congr fun k _ => by
    by_cases c : k = 0
    · subst c
      rw [und_t.mpr (.self 0), Bool.and_true]
      simp
    · have z : und ns k 0 = false := by
        cases q : und ns k 0 with
        | false => rfl
        | true => exact absurd (und_t.mp q).le (by omega)
      rw [z, Bool.and_false, decide_eq_false c, Bool.false_and]
  have one : ∀ (b : Bool) n, 0 < n → (idx (fun k => decide (k = 0) && b) n).length = if b = true then 1 else 0 := by
    intro b n
    induction n with
    | zero => omega
    | succ n ih =>
      intro _
      rw [idx_succ]
      by_cases c : n = 0
      · subst c
        cases b <;> rfl
      · rw [if_neg (by rw [decide_eq_false c]; exact Bool.noConfusion)]
        exact ih (by omega)
  show (idx _ ns.length).length = _
  rw [e, one _ _ h0]
  unfold own
  by_cases c : handAt ns 0 = h
  · rw [if_pos c, decide_eq_true c]
    rfl
  · rw [if_neg c, decide_eq_false c]
    rfl
/-- the first of a row that a note lies under -/
theorem firstIn {q : Nat → Bool} : ∀ {row : List Nat}, row.Pairwise (fun a b => q a = true → q b = true) → row.findIdx q = (row.filter fun k => !q k).length
  | [], _ => rfl
  | a :: r, h => by
    obtain ⟨h1, h2⟩ := List.pairwise_cons.mp h
    rw [List.findIdx_cons]
    cases c : q a with
    | true =>
      have z : (a :: r).filter (fun k => !q k) = [] := List.filter_eq_nil_iff.mpr fun k hk => by
        rcases List.mem_cons.mp hk with e | hk
        · rw [e, c]
          simp
        · rw [h1 k hk c]
          simp
      rw [z]
      rfl
    | false =>
      rw [List.filter_cons_of_pos (by rw [c]; rfl), List.length_cons, ← firstIn h2]
      rfl
theorem nlv_first (h : Str) (j : Nat) : (idx (own ns h) ns.length).findIdx (und ns j) = nlv ns h j := by
  rw [firstIn, idx_and]
  · rfl
  · refine (idx_sorted _ _).imp_of_mem fun {a b} ha hb lt q => ?_
    have a1 := own_t.mp (mem_idx.mp ha).2
    have b1 := own_t.mp (mem_idx.mp hb).2
    exact und_t.mpr ((und_t.mp q).trans (own_chain h b a (Nat.le_of_lt lt) a1 b1))
end
end L2.Pc


namespace L2.Bv
open PySem L2
section
variable {dl cl x p : Addr} {H H' : Hp} {S : Addr → Prop}
theorem noneBack (k : Keep dl cl H H') (D : DealAt H' dl cl) (h : H' x = none) : H x = none := by
  obtain ⟨cs, m, e1, e2, _⟩ := D.ex
  cases e : H x with
  | none => rfl
  | some u =>
    by_cases n1 : x = dl
    · rw [n1, e1] at h
      cases h
    · by_cases n2 : x = cl
      · rw [n2, e2] at h
        cases h
      · rw [k x u n1 n2 e] at h
        cases h
theorem dealOff (D : DealAt H dl cl) (h : H x = none) : x ≠ dl ∧ x ≠ cl := by
  obtain ⟨cs, m, e1, e2, _⟩ := D.ex
  constructor
  · intro z
    rw [z, e1] at h
    cases h
  · intro z
    rw [z, e2] at h
    cases h
/-- the deal's two places -/
def dc (dl cl : Addr) : Addr → Prop := fun x => x = dl ∨ x = cl
theorem Keep.ks (k : Keep dl cl H H') (h1 : S dl) (h2 : S cl) : KS S H H' := fun x o n e => k x o (fun z => n (by rw [z]; exact h1)) (fun z => n (by rw [z]; exact h2)) e
theorem Keep.dc (k : Keep dl cl H H') : KS (dc dl cl) H H' := k.ks (.inl rfl) (.inr rfl)
theorem keepOf (k : KS (Bv.dc dl cl) H H') : Keep dl cl H H' := fun x o n1 n2 e => k x o (fun z => z.elim n1 n2) e
theorem DealAt.al (D : DealAt H dl cl) : Al (Bv.dc dl cl) H := by
  obtain ⟨cs, m, e1, e2, _⟩ := D.ex
  rintro x (rfl | rfl)
  · rw [e1]
    exact fun z => nomatch z
  · rw [e2]
    exact fun z => nomatch z
/-- taken places stay taken -/
theorem Al.keep (al : Al S H) (k : Keep dl cl H H') (D : DealAt H' dl cl) : Al S H' := fun x s z => al x s (noneBack k D z)
theorem Al.newp {o : HO} (al : Al S H) (h : H p = none) : Al S (upd H p o) := fun x s z => by
  have ne : x ≠ p := fun q => al x s (by rw [q]; exact h)
  rw [upd_ne ne] at z
  exact al x s z
theorem Al.same (al : Al S H) (k : Same H H') : Al S H' := fun x s z => by
  cases e : H x with
  | none => exact al x s e
  | some o =>
    rw [k x o e] at z
    cases z
/-- a thing that is new stands whatever was volatile -/
def New (H H' : Hp) (P : Hp → Prop) : Prop := ∀ S : Addr → Prop, Al S H → St' S H' P
theorem New.now {P : Hp → Prop} (h : New H H' P) : P H' := (h noS Al.empty).now
/-- the text that a list of texts holds -/
theorem strGet {ms : List Str} {i : Nat} {x : V} (h : (ms.map V.str)[i]? = some x) : ∃ z, ms[i]? = some z ∧ x = V.str z := by
  rw [List.getElem?_map] at h
  cases e : ms[i]? with
  | none =>
    rw [e] at h
    cases h
  | some z =>
    rw [e] at h
    exact ⟨z, rfl, (Option.some.inj h).symm⟩
theorem strInj : ∀ {a b : List Str}, a.map V.str = b.map V.str → a = b
  | [], [], _ => rfl
  | [], _ :: _, h => by cases h
  | _ :: _, [], h => by cases h
  | x :: r, y :: t, h => by
    have h' : V.str x :: r.map V.str = V.str y :: t.map V.str := h
    injection h' with h1 h2
    injection h1 with h3
    rw [h3, strInj h2]
/-- another order of texts is a list of texts -/
theorem strPerm {ys : List V} {xs : List Str} (h : ys.Perm (xs.map V.str)) : ∃ zs : List Str, ys = zs.map V.str ∧ zs.Perm xs := by
  have all : ∀ y ∈ ys, ∃ z, y = V.str z := fun y hy => by
    obtain ⟨z, _, e⟩ := List.mem_map.mp (h.mem_iff.mp hy)
    exact ⟨z, e.symm⟩
  let un : V → Str := fun v => match v with
    | .str z => z
    | _ => Str.empty
  have e1 : ys = (ys.map un).map V.str := by
    rw [List.map_map]
    refine (List.map_id ys).symm.trans (List.map_congr_left fun y hy => ?_)
    obtain ⟨z, rfl⟩ := all y hy
    rfl
  refine ⟨ys.map un, e1, ?_⟩
  have p := h.map un
  rw [List.map_map] at p
  have e2 : xs.map (un ∘ V.str) = xs := (List.map_congr_left fun _ _ => rfl).trans (List.map_id xs)
  rwa [e2] at p
end
/-- a comprehension that changes nothing: its values by the turns that it takes -/
theorem lcF {J : It} {n : Nat} {G : Hp → Prop} {Y : Nat → Hp → V → Hp → Prop} (w : Walk J n G Y) {g : TG} {tt : TT} {te : TE} {vs : List Nat} {σ : St} {H1 : Hp} {D : Addr} {Qd : Hp → Prop} (f : Nat → Bool) (fv : Nat → V)
    (hD : H1 D = none) (hn : n ≤ 1000) (hG : ∀ H, Same H1 H → G H)
    (hs : ∀ (i : Nat) (x : V) (H H' : Hp) (KT : V → Hp → Prop) (KF : Hp → Prop), i < n → Same H1 H → Y i H x H' → (∀ v H4, f i = true → Same H H4 → v = fv i → KT v H4) → (∀ H4, f i = false → Same H H4 → KF H4) →
      g x (wipe σ vs) H' fun σ2 H2 => wipe σ2 vs = wipe σ vs ∧ tt σ2 H2 fun b H3 => if b = true then te σ2 H3 KT else KF H3)
    (hd : ∀ H, Same H1 H → H D = some (.lst ((idx f n).map fv)) → Qd H) :
    ∃ W : Nat → Nat → Hp → Prop, (∃ m, W 0 m (upd H1 D (.lst []))) ∧ ∀ i m H, W i m H → (J.stop i H ∧ Qd H) ∨ (J.go i H ∧ ∃ Nx : Hp → Prop, (∀ H', Nx H' → ∃ m', m' < m ∧ W (i + 1) m' H') ∧ ∀ x H', J.yld i H x H' → g x (wipe σ vs) H' fun σ2 H2 => wipe σ2 vs = wipe σ vs ∧ tt σ2 H2 fun b H3 => if b = true then te σ2 H3 fun y H4 => ∃ acc, H4 D = some (.lst acc) ∧ acc.length < sizeLine ∧ Nx (upd H4 D (.lst (acc ++ [y]))) else Nx H3) :=
  lcG w noS (fun _ => True) f (fun k v _ => v = fv k) hD Al.empty (fun _ _ _ _ => trivial) trivial hn (fun H k => hG H k.same) (fun i x H H' KT KF hi k _ _ y kt kf => hs i x H H' KT KF hi k.same y (fun v H4 a b c => kt v H4 a (KS.of b) trivial (St'.pure c)) fun H4 a b => kf H4 a (KS.of b) trivial)
    fun H acc k _ e hb => hd H k.same (by rw [e, hb.flat])
end L2.Bv


namespace L2.K2
open PySem L2 L2.Bv L2.Pc
abbrev sMixed : Stmt := top 46
theorem scM : FnScope ["heap", "some", "left", "found", "turn"] ["heap", "some"] (defScope sMixed) := ⟨rfl, rfl, rfl, by decide +kernel, rfl, by decide +kernel, by decide +kernel⟩
/-- what a helper's call wants: the def, its place, how it binds -/
structure Dn (P : Program) (w : World) (K : PySem.W.Frag) (mg : Str → Option Value) (base : Heap) (k : Nat) (x : Str) (ps : List Str) (sp : Sp) : Prop where
  ex : ∃ (f : Addr) (fd : FuncData), FnOk P w K mg base CX0 k f fd ps sp ∧ PySem.W.keepIn K (.ref f) = true ∧ Binds K fd ps [] ∧ mg x = some (.ref f)
/-- a list in another order -/
def spMixed (K : PySem.W.Frag) : Sp := fun vs H Q _ => ∃ (dl cl a : Addr) (xs : List V), vs = [.ref dl, .ref a] ∧ DealAt H dl cl ∧ SqL K H a xs ∧ xs.length ≤ 100 ∧
  ∀ (p : Addr) (ys : List V) (H' : Hp), H p = none → ys.Perm xs → H' p = some (.lst ys) → DealAt H' dl cl → Keep dl cl H H' → Q (.ref p) H'
theorem eraseLen {α : Type} {xs : List α} {k n : Nat} (h : k < xs.length) (e : xs.length = n + 1) : (xs.eraseIdx k).length = n := by
  rw [List.length_eraseIdx, if_pos h, e]
  rfl
theorem eraseBack {α : Type} : ∀ {xs : List α} {k : Nat} {y : α}, xs[k]? = some y → (y :: xs.eraseIdx k).Perm xs
  | [], _, _, h => by cases h
  | x :: r, 0, y, h => by
    obtain rfl : x = y := Option.some.inj h
    exact List.Perm.refl _
  | x :: r, k + 1, y, h => (List.Perm.swap x y _).trans ((eraseBack (xs := r) (k := k) h).cons x)
section
variable {P : Program} {w : World} {K : PySem.W.Frag} {mg : Str → Option Value} {base : Heap}
theorem ok_mixed {f : Addr} {fd : FuncData} (F : Fun K "_law_mixed" "_law_mixed" sMixed f fd) (G : Dn P w K mg base 1 "_law_draw" ["heap", "many"] spAny) (ml : mg "list" = none) (mr : mg "range" = none) (mn : mg "len" = none) : FnOk P w K mg base CX0 2 f fd ["heap", "some"] (spMixed K) := by
  obtain ⟨g, gd, G, kG, bG, mG⟩ := G.ex
  refine F.ok scM (fun vs H Q E h => ?_) (fun cdv A outer s H vs Q E hr h => ?_)
  · obtain ⟨dl, cl, a, xs, rfl, _⟩ := h
    rfl
  obtain ⟨dl, cl, a, xs, rfl, D, hS, hl, q⟩ := h
  refine ⟨_, pss_cons (ps_par (i := 2) (j := 3) (by rfl) scM.nd rfl rfl (by decide) rfl rfl (pa_cons (pe_callTy call_list_of (by rfl) ml (by decide +kernel) (pa_cons (pv 1) pa_nil)) (pa_cons (pe_lst pa_nil) pa_nil)) (by rfl))
    (pss_cons (ps_for PassesOwn.never rfl (pi_range1 (by rfl) mr (pa_cons (pe_callB call_len_seq (by rfl) mn PySem.boot_len (pa_cons (pv 2) pa_nil)) pa_nil)) (pg_name (i := 4) scM.nd rfl (Or.inl rfl))
      (pss_one (ps_expr (pe_bm PySem.F.plainAttrs_list PySem.F.slot_list_append PySem.F.type_list_append mt_append (pv 3) (pa_cons (pe_bm PySem.F.plainAttrs_list PySem.F.slot_list_pop PySem.F.type_list_pop mt_popAt (pv 2)
        (pa_cons (pe_call G hr rfl mG kG bG .nil pass0 (pa_cons (pv 0) (pa_cons (pe_callB call_len_seq (by rfl) mn PySem.boot_len (pa_cons (pv 2) pa_nil)) pa_nil))) pa_nil)) pa_nil)))))
    (pss_one (ps_ret (pv 3)))), ?_⟩
  refine ⟨_, rfl, _, _, rfl, .inl hS, fun l hl0 => ⟨by show 0 ≤ sizeLine; decide, fun o ho => ⟨_, _, rfl, ?_⟩⟩⟩
  have lo : l ≠ o := ne_of_none upd_same ho
  have hoH : H o = none := by
    rw [upd_ne lo.symm] at ho
    exact ho
  have D0 := (D.new (.lst xs) hl0).new (.lst []) ho
  have k0 : Keep dl cl H (upd (upd H l (.lst xs)) o (.lst [])) := ((Keep.refl dl cl H).onto l hl0).onto o hoH
  have e1 : upd (upd H l (.lst xs)) o (.lst []) l = some (.lst xs) := by
    rw [upd_ne lo]
    exact upd_same
  refine ⟨_, rfl, _, _, rfl, .inl (SqL.of e1), _, rfl, by omega, by omega, ?_⟩
  obtain ⟨ld, lc⟩ := dealOff D hl0
  obtain ⟨od, oc⟩ := dealOff D hoH
  refine for_range (lo := 0) (n := xs.length) (fun i σ H' => ∃ (t : Option V) (rest out : List V), σ = [some (.ref dl), some (.ref a), some (.ref l), some (.ref o), t] ∧ H' l = some (.lst rest) ∧ H' o = some (.lst out) ∧ rest.length + i = xs.length ∧ (rest ++ out).Perm xs ∧ DealAt H' dl cl ∧ Keep dl cl H H') ?_ ?_ ?_
  · exact ⟨none, xs, [], rfl, e1, upd_same, rfl, by rw [List.append_nil] <;> exact List.Perm.refl _, D0, k0⟩
  · rintro i σ H1 hi ⟨t, rest, out, rfl, h1, h2, h3, h4, D1, k1⟩
    refine ⟨_, rfl, .inl ⟨rfl, _, SqL.of h2⟩, _, rfl, .inl ⟨rfl, _, SqL.of h1⟩, _, rfl, _, rfl, _, _, rfl, .inl (SqL.of h1), dl, cl, _, rfl, D1, by omega, by omega, fun r H2 r0 r1 D2 k2 => ?_⟩
    obtain ⟨n, rfl⟩ := Int.eq_ofNat_of_zero_le r0
    have hn : n < rest.length := by omega
    have g1 := k2 l _ ld lc h1
    have g2 := k2 o _ od oc h2
    refine ⟨_, _, _, n, _, rfl, rfl, g1, by omega, by omega, by simp [seqIndex?]; omega, List.getElem?_eq_getElem hn, ?_⟩
    have g3 : upd H2 l (.lst (rest.eraseIdx n)) o = some (.lst out) := by
      rw [upd_ne lo.symm]
      exact g2
    have pl := h4.length_eq
    rw [List.length_append] at pl
    refine ⟨_, _, _, rfl, rfl, g3, small1000 (by omega), ?_⟩
    refine ⟨_, rest.eraseIdx n, _, rfl, ?_, upd_same, ?_, ?_, (D2.new' ld lc).new' od oc, ?_⟩
    · rw [upd_ne lo]
      exact upd_same
    · rw [eraseLen hn (n := xs.length - (i + 1)) (by omega)]
      omega
    · have q1 := eraseBack (List.getElem?_eq_getElem hn)
      have q2 : (rest.eraseIdx n ++ (out ++ [rest[n]])).Perm (rest[n] :: (rest.eraseIdx n ++ out)) := by
        rw [← List.append_assoc]
        exact List.perm_append_singleton _ _
      exact (q2.trans (List.Perm.append_right out q1)).trans h4
    · exact ((k1.trans k2).onto l hl0).onto o hoH
  · rintro σ H1 ⟨t, rest, out, rfl, h1, h2, h3, h4, D1, k1⟩
    obtain rfl : rest = [] := List.length_eq_zero_iff.mp (by omega)
    exact ⟨_, rfl, q o out H1 hoH h4 h2 D1 k1⟩
end
end L2.K2


namespace L2.Pc
open PySem L2 L2.Bv
/-! ### names: no Python here -/
/-- the text of some code points -/
def chS (l : List Nat) : Str := ⟨l.toArray⟩
theorem chS_cps (l : List Nat) : (chS l).cps.toList = l := rfl
theorem chS_len (l : List Nat) : (chS l).length = l.length := rfl
theorem chS_of (z : Str) : chS z.cps.toList = z := rfl
theorem chS_inj {a b : List Nat} (h : chS a = chS b) : a = b := by
  have z : (chS a).cps.toList = (chS b).cps.toList := by rw [h]
  exact z
def lowCs : List Nat := [97, 98, 99, 100, 101, 102, 103, 104, 105, 106, 107, 108, 109, 110, 111, 112, 113, 114, 115, 116, 117, 118, 119, 120, 121, 122]
/-- a name: one to eight small letters -/
def IsNm (z : Str) : Prop := 1 ≤ z.length ∧ z.length ≤ 8 ∧ ∀ c ∈ z.cps.toList, c ∈ lowCs
theorem join_cps : ∀ ys : List Str, (Txt.join Str.empty ys).cps.toList = (ys.map fun y => y.cps.toList).flatten := by
  have h : ∀ ys : List Str, (Str.join Str.empty ys).cps.toList = (ys.map fun y => y.cps.toList).flatten := by
    intro ys
    induction ys with
    | nil => rfl
    | cons x r ih =>
      cases r with
      | nil =>
        show x.cps.toList = x.cps.toList ++ []
        rw [List.append_nil]
      | cons y t =>
        have e : Str.join Str.empty (x :: y :: t) = x ++ Str.empty ++ Str.join Str.empty (y :: t) := rfl
        have e2 : ∀ a b : Str, (a ++ b).cps.toList = a.cps.toList ++ b.cps.toList := fun a b => Array.toList_append
        rw [e, e2, e2, ih]
        show x.cps.toList ++ [] ++ _ = _
        rw [List.append_nil]
        rfl
  intro ys
  have z : Txt.join Str.empty ys = Str.join Str.empty ys := StrLaws.glued_eq_join _ _
  rw [z, h]
theorem join_chS (ls : List (List Nat)) : Txt.join Str.empty (ls.map chS) = chS ls.flatten := by
  have e : (Txt.join Str.empty (ls.map chS)).cps.toList = ls.flatten := by
    rw [join_cps, List.map_map]
    have q : ls.map ((fun y : Str => y.cps.toList) ∘ chS) = ls := (List.map_congr_left fun _ _ => rfl).trans (List.map_id ls)
    rw [q]
  rw [← e, chS_of]
theorem ones_flatten : ∀ l : List Nat, (l.map fun c => [c]).flatten = l
  | [] => rfl
  | c :: r => by
    show [c] ++ (r.map fun c => [c]).flatten = c :: r
    rw [ones_flatten r]
    rfl
/-- the i-th name that is made -/
def NmAt (A B : List Nat) (first : Nat) (even : Bool) (i : Nat) (v : List Nat) : Prop := ∃ d, v = A ++ ((97 + (first + i) % 26) :: (if i < 26 then [] else [113])) ++ (if even = true then B else B.take d)
theorem nm_apart {A B : List Nat} {first many i j : Nat} {even : Bool} {u v : List Nat} (hm : many ≤ 40) (he : 26 < many → even = true) (ij : i < j) (jm : j < many) (hu : NmAt A B first even i u) (hv : NmAt A B first even j v) : u ≠ v := by
  obtain ⟨d, rfl⟩ := hu
  obtain ⟨d', rfl⟩ := hv
  intro h
  rw [List.append_assoc, List.append_assoc] at h
  have h1 := List.append_cancel_left h
  rw [List.cons_append, List.cons_append] at h1
  obtain ⟨h2, h3⟩ := List.cons.inj h1
  have h4 : (first + i) % 26 = (first + j) % 26 := by omega
  have h5 : j = i + 26 := by omega
  have ev := he (by omega)
  have a : (if i < 26 then ([] : List Nat) else [113]) = [] := if_pos (by omega)
  have b : (if j < 26 then ([] : List Nat) else [113]) = [113] := if_neg (by omega)
  rw [a, b, if_pos ev, if_pos ev] at h3
  have h6 := congrArg List.length h3
  rw [List.length_append, List.length_append] at h6
  have h7 : ([] : List Nat).length = 0 := rfl
  have h8 : [113].length = 1 := rfl
  omega
theorem nm_is {A B : List Nat} {first i : Nat} {even : Bool} {v : List Nat} (hA : ∀ c ∈ A, c ∈ lowCs) (hB : ∀ c ∈ B, c ∈ lowCs) (hl : A.length + B.length ≤ 6) (hv : NmAt A B first even i v) : IsNm (chS v) := by
  obtain ⟨d, rfl⟩ := hv
  have lB : (if even = true then B else B.take d).length ≤ B.length := by
    split
    · exact Nat.le_refl _
    · rw [List.length_take]
      exact Nat.min_le_right _ _
  have l1 : (if i < 26 then ([] : List Nat) else [113]).length ≤ 1 := by
    split
    · exact Nat.zero_le _
    · exact Nat.le_refl _
  refine ⟨?_, ?_, ?_⟩
  · rw [chS_len, List.length_append, List.length_append, List.length_cons]
    omega
  · rw [chS_len, List.length_append, List.length_append, List.length_cons]
    omega
  · intro c hc
    rw [chS_cps] at hc
    rcases List.mem_append.mp hc with z | z
    · rcases List.mem_append.mp z with z | z
      · exact hA c z
      · rcases List.mem_cons.mp z with z | z
        · have lt : (first + i) % 26 < 26 := Nat.mod_lt _ (by decide)
          have all : ∀ k, k < 26 → 97 + k ∈ lowCs := by decide
          rw [z]
          exact all _ lt
        · split at z
          · cases z
          · rw [List.mem_singleton.mp z]
            decide
    · split at z
      · exact hB c z
      · exact hB c (List.mem_of_mem_take z)
theorem nodup_of {α : Type} {l : List α} (h : ∀ (i j : Nat) (x y : α), i < j → l[i]? = some x → l[j]? = some y → x ≠ y) : l.Nodup := by
  refine List.pairwise_iff_getElem.mpr fun i j hi hj ij => ?_
  exact h i j _ _ ij (List.getElem?_eq_getElem hi) (List.getElem?_eq_getElem hj)
end L2.Pc


namespace L2.K2
open PySem L2 L2.Bv L2.Pc
theorem seqBy {t r : TS} {D : Ends} {σ : St} {H : Hp} (Pv : St → Hp → Prop) (rest : ∀ σ1 H1, Pv σ1 H1 → r D σ1 H1) (go : (∀ σ1 H1, Pv σ1 H1 → r D σ1 H1) → t { D with nx := r D } σ H) : tSeq t r D σ H := go rest
theorem smNew {H : Hp} {p : Addr} {o : HO} (h : H p = none) : Same H (upd H p o) := (KS.new (S := noS) h).same
theorem sumTwo : ∀ ys : List Str, (∀ y ∈ ys, y.length ≤ 2) → (ys.map fun x => x.length).sum ≤ 2 * ys.length
  | [], _ => Nat.le_refl _
  | x :: r, h => by
    have a := sumTwo r fun z hz => h z (List.mem_cons_of_mem _ hz)
    have b := h x List.mem_cons_self
    rw [List.map_cons, List.sum_cons, List.length_cons]
    omega
theorem appS (a : Nat) (y : Str) : (⟨#[a]⟩ : Str) ++ y = chS (a :: y.cps.toList) := by
  have e : ((⟨#[a]⟩ : Str) ++ y).cps.toList = a :: y.cps.toList := Array.toList_append
  rw [← e, chS_of]
theorem charsOf : ∀ {acc : List V}, (∀ v ∈ acc, ∃ c ∈ lowCs, v = V.str (chS [c])) → ∃ cs : List Nat, acc = cs.map (fun c => V.str (chS [c])) ∧ ∀ c ∈ cs, c ∈ lowCs
  | [], _ => ⟨[], rfl, fun c h => by cases h⟩
  | v :: r, h => by
    obtain ⟨c, hc, rfl⟩ := h v List.mem_cons_self
    obtain ⟨cs, e, q⟩ := charsOf (acc := r) fun u hu => h u (List.mem_cons_of_mem _ hu)
    refine ⟨c :: cs, by rw [e] <;> rfl, fun x hx => ?_⟩
    rcases List.mem_cons.mp hx with z | z
    · rw [z]
      exact hc
    · exact q x z
theorem cutTo (xs : List V) (k : Nat) : cutV xs none (some (k : Int)) = xs.take k := by
  unfold cutV
  rw [HT.sIx_none, HT.sIx_nat, List.drop_zero, Nat.sub_zero]
  exact (List.take_eq_take_min).symm
theorem cutFrom (xs : List V) (k : Nat) : cutV xs (some (k : Int)) none = xs.drop k := by
  unfold cutV
  rw [HT.sIx_none, HT.sIx_nat]
  rcases Nat.le_total k xs.length with h | h
  · rw [Nat.min_eq_left h]
    exact List.take_of_length_le (by rw [List.length_drop] <;> exact Nat.le_refl _)
  · rw [Nat.min_eq_right h, List.drop_eq_nil_of_le (Nat.le_refl _), List.drop_eq_nil_of_le h, List.take_nil]
theorem cutMid (xs : List V) (k d : Nat) (hk : k ≤ xs.length) : cutV xs (some (k : Int)) (some ((k + d : Nat) : Int)) = (xs.drop k).take d := by
  unfold cutV
  rw [HT.sIx_nat, HT.sIx_nat, Nat.min_eq_left hk]
  rcases Nat.le_total (k + d) xs.length with h | h
  · rw [Nat.min_eq_left h, Nat.add_sub_cancel_left]
  · rw [Nat.min_eq_right h, List.take_of_length_le (by rw [List.length_drop] <;> exact Nat.le_refl _), List.take_of_length_le (by rw [List.length_drop] <;> omega)]
abbrev sNames : Stmt := top 47
abbrev nNames : List Str := ["heap", "many", "letters", "stem", "place", "first", "found", "even", "at", "sign", "rest", "turn"]
theorem scN : FnScope nNames ["heap", "many"] (defScope sNames) := ⟨rfl, rfl, rfl, by decide +kernel, rfl, by decide +kernel, by decide +kernel⟩
/-- new names -/
def spNames : Sp := fun vs H Q _ => ∃ (dl cl : Addr) (m : Nat), vs = [.ref dl, .int m] ∧ DealAt H dl cl ∧ 2 ≤ m ∧ m ≤ 40 ∧
  ∀ (p : Addr) (zs : List Str) (H' : Hp), H p = none → H' p = some (.lst (zs.map V.str)) → zs.length = m → zs.Nodup → (∀ z ∈ zs, IsNm z) → DealAt H' dl cl → Keep dl cl H H' → Q (.ref p) H'
theorem letters26 : ∀ c ∈ ("abcdefghijklmnopqrstuvwxyz" : Str).cps.toList, c ∈ lowCs := by decide +kernel
section
variable {P : Program} {w : World} {K : PySem.W.Frag} {mg : Str → Option Value} {base : Heap}
theorem ok_names {f : Addr} {fd : FuncData} (F : Fun K "_law_names" "_law_names" sNames f fd) (G : Dn P w K mg base 1 "_law_draw" ["heap", "many"] spAny) (O : Dn P w K mg base 2 "_law_pick" ["heap", "some"] spOf)
    (M : Dn P w K mg base 2 "_law_mixed" ["heap", "some"] (spMixed K)) (mr : mg "range" = none) (mn : mg "len" = none) (mi : mg "int" = none) : FnOk P w K mg base CX0 3 f fd ["heap", "many"] spNames := by
  obtain ⟨g, gd, G, kG, bG, mG⟩ := G.ex
  obtain ⟨o, od, O, kO, bO, mO⟩ := O.ex
  obtain ⟨m0, md, M, kM, bM, mM⟩ := M.ex
  refine F.ok scN (fun vs H Q E h => ?_) (fun cdv A outer s H vs Q E hr h => ?_)
  · obtain ⟨dl, cl, m, rfl, _⟩ := h
    rfl
  obtain ⟨dl, cl, m, rfl, D, m2, m40, q⟩ := h
  have hr1 : Room 1 _ := hr.mono (by decide)
  refine ⟨_, pss_cons (ps_set (i := 2) scN.nd rfl (Or.inr rfl) pe_str)
    (pss_cons (ps_setLc (i := 3) (own := [("turn", 11)]) (g := gName 11) (tt := tYes) rfl scN.nd rfl rfl (sw_true rfl rfl rfl (by decide +kernel))
        (pi_range1 (by rfl) mr (pa_cons (pe_call O hr rfl mO kO bO .nil pass0 (pa_cons (pv 0) (pa_cons (pe_lst (pa_cons pe_int (pa_cons pe_int (pa_cons pe_int (pa_cons pe_int (pa_cons pe_int pa_nil)))))) pa_nil))) pa_nil))
        (blkOk_by (N := nNames) (sc := defScope sNames) (by decide +kernel)) (fun _ _ _ _ _ => pg_name (i := 11) scN.nd rfl (Or.inl rfl)) (fun _ _ _ _ _ => pts_nil)
        (fun _ _ _ _ _ => pe_call O hr rfl mO kO bO .nil pass0 (pa_cons (pv 0) (pa_cons (pv 2) pa_nil))))
    (pss_cons (ps_par3 (i := 4) (j := 5) (l := 6) rfl scN.nd rfl rfl rfl (by decide) (by decide) (by decide) rfl rfl rfl
        (pa_cons (pe_call G hr1 rfl mG kG bG .nil pass0 (pa_cons (pv 0) (pa_cons (pe_op op_add (pe_callB call_len_seq (by rfl) mn PySem.boot_len (pa_cons (pv 3) pa_nil)) pe_int) pa_nil)))
          (pa_cons (pe_call G hr1 rfl mG kG bG .nil pass0 (pa_cons (pv 0) (pa_cons pe_int pa_nil))) (pa_cons (pe_lst pa_nil) pa_nil))) (by rfl))
    (pss_cons (ps_set (i := 7) scN.nd rfl (Or.inl rfl) (pe_or (pe_cmpR op_gt (pv 1) pe_int (nomark _)) (pe_one (pe_cmpR op_eq (pe_call G hr1 rfl mG kG bG .nil pass0 (pa_cons (pv 0) (pa_cons pe_int pa_nil))) pe_int (nomark _)))))
    (pss_cons (ps_for PassesOwn.never rfl (pi_range1 (by rfl) mr (pa_cons (pv 1) pa_nil)) (pg_name (i := 8) scN.nd rfl (Or.inl rfl))
      (pss_cons (ps_set (i := 9) scN.nd rfl (Or.inl rfl) (pe_op op_add_str (pe_ix ix_str (pv 2) (pe_op op_mod (pe_callTy call_int1 (by rfl) mi (by decide +kernel) (pa_cons (pe_op op_add (pv 5) (pv 8)) pa_nil)) pe_int) (fun _ _ => rfl)) (pe_ifExp (pt_cmpR op_lt (pv 8) pe_int (nomark _)) pe_str pe_str)))
      (pss_cons (ps_set (i := 10) scN.nd rfl (Or.inl rfl) (pe_ifExp (pt_val (pv 7)) (pe_slice sl_list (pv 3) (po_some (pv 4)) po_none) (pe_slice sl_list (pv 3) (po_some (pv 4)) (po_some (pe_op op_add (pv 4) (pe_call G hr1 rfl mG kG bG .nil pass0 (pa_cons (pv 0) (pa_cons pe_int pa_nil))))))))
      (pss_one (ps_expr (pe_bm PySem.F.plainAttrs_list PySem.F.slot_list_append PySem.F.type_list_append mt_append (pv 6) (pa_cons (pe_join pe_str (pe_op op_cat (pe_op op_cat (pe_slice sl_list (pv 3) po_none (po_some (pv 4))) (pe_lst (pa_cons (pv 9) pa_nil))) (pv 10))) pa_nil)))))))
    (pss_one (ps_ret (pe_call M hr rfl mM kM bM .nil pass0 (pa_cons (pv 0) (pa_cons (pv 6) pa_nil))))))))), ?_⟩
  refine ⟨_, rfl, (by show 5 ≤ sizeLine; decide), fun l hl => ?_⟩
  obtain ⟨ld, lc⟩ := dealOff D hl
  refine ⟨dl, cl, _, rfl, D.new _ hl, .inl ⟨l, _, rfl, ld, lc, upd_same, (by show 1 ≤ 5; decide), (by show 5 ≤ 1000; decide), fun i v H1 hi D1 k1 => ?_⟩⟩
  obtain ⟨n, rfl, n6⟩ : ∃ n : Nat, v = .int n ∧ n ≤ 6 := by
    match i, hi with
    | 0, hi => exact ⟨0, (Option.some.inj hi).symm, by decide⟩
    | 1, hi => exact ⟨0, (Option.some.inj hi).symm, by decide⟩
    | 2, hi => exact ⟨1, (Option.some.inj hi).symm, by decide⟩
    | 3, hi => exact ⟨3, (Option.some.inj hi).symm, by decide⟩
    | 4, hi => exact ⟨6, (Option.some.inj hi).symm, by decide⟩
    | i + 5, hi => cases hi
  have k1 : Keep dl cl H H1 := (Keep.new _ hl).trans k1
  refine ⟨_, rfl, by omega, by omega, fun L hL => ?_⟩
  obtain ⟨Ld, Lc⟩ := dealOff D1 hL
  refine lcG walk_range (dc dl cl) (fun H => DealAt H dl cl) (fun _ => true) (fun _ v _ => ∃ c ∈ lowCs, v = V.str (chS [c])) hL D1.al (fun H o d _ => d.new' Ld Lc) D1 (by show ((n : Nat) : Int).toNat ≤ 1000; omega) (fun _ _ => trivial) ?_ ?_
  · rintro i x H2 _ KT KF hi k2 D2 _ ⟨rfl, rfl⟩ kt kf
    exact ⟨rfl, yesT (iteT ⟨_, rfl, _, rfl, dl, cl, _, rfl, D2, .inr ⟨_, rfl, by decide +kernel, by decide +kernel, fun c H3 hc D3 k3 => kt _ _ rfl k3.dc D3 (St'.pure ⟨c, letters26 c hc, rfl⟩)⟩⟩)⟩
  · rintro H2 acc k2 D2 e2 hb
    obtain ⟨cs, rfl, hcs⟩ := charsOf (acc := acc) fun v hv => by
      obtain ⟨j, hj, e⟩ := List.getElem_of_mem hv
      obtain ⟨_, _, z⟩ := hb.2 j v (by rw [← e] <;> exact List.getElem?_eq_getElem hj)
      exact z.now
    have lcs : cs.length ≤ 6 := by
      have z := hb.1
      rw [List.length_map] at z
      have z2 := idx_len (fun _ => true) ((n : Nat) : Int).toNat
      omega
    have k2 : Keep dl cl H H2 := k1.trans (keepOf k2)
    refine ⟨_, rfl, _, rfl, _, _, rfl, .inl (SqL.of e2), _, _, rfl, rfl, dl, cl, _, rfl, D2, by rw [List.length_map]; omega, by rw [List.length_map]; omega, fun r3 H3 a3 b3 D3 k3 => ?_⟩
    refine ⟨_, rfl, dl, cl, _, rfl, D3, by decide, by decide, fun r4 H4 a4 b4 D4 k4 => ⟨by show 0 ≤ sizeLine; decide, fun fo hfo => ⟨_, _, _, rfl, ?_⟩⟩⟩
    obtain ⟨pl, rfl⟩ := Int.eq_ofNat_of_zero_le a3
    obtain ⟨fi, rfl⟩ := Int.eq_ofNat_of_zero_le a4
    rw [List.length_map] at b3
    have e4 := k4 L _ Ld Lc (k3 L _ Ld Lc e2)
    obtain ⟨fd', fc'⟩ := dealOff D4 hfo
    have Lo : L ≠ fo := ne_of_none e4 hfo
    have D5 := D4.new (.lst []) hfo
    have k4' : Keep dl cl H H4 := k2.trans (k3.trans k4)
    have foH : H fo = none := noneBack k4' D4 hfo
    have k5 : Keep dl cl H (upd H4 fo (.lst [])) := k4'.onto fo foH
    have e5 : upd H4 fo (.lst []) L = some (.lst (cs.map fun c => V.str (chS [c]))) := by
      rw [upd_ne Lo]
      exact e4
    dsimp only
    refine seqBy (fun σ1 H5 => ∃ ev : Bool, σ1 = [some (.ref dl), some (.int m), some (.str "abcdefghijklmnopqrstuvwxyz"), some (.ref L), some (.int pl), some (.int fi), some (.ref fo), some (.bl ev), none, none, none, none] ∧ (26 < m → ev = true) ∧ DealAt H5 dl cl ∧ Keep dl cl H H5 ∧ H5 L = some (.lst (cs.map fun c => V.str (chS [c]))) ∧ H5 fo = some (.lst [])) ?_ ?_
    · rintro σ1 H5 ⟨ev, rfl, hev, D5, k5, e5, e5'⟩
      refine ⟨_, rfl, _, rfl, by omega, by omega, ?_⟩
      have A6 : ∀ c ∈ cs.take pl, c ∈ lowCs := fun c h => hcs c (List.mem_of_mem_take h)
      have B6 : ∀ c ∈ cs.drop pl, c ∈ lowCs := fun c h => hcs c (List.mem_of_mem_drop h)
      refine for_range (lo := 0) (n := m) (fun i σ H' => ∃ (t8 t9 t10 : Option V) (ns : List (List Nat)), σ = [some (.ref dl), some (.int m), some (.str "abcdefghijklmnopqrstuvwxyz"), some (.ref L), some (.int pl), some (.int fi), some (.ref fo), some (.bl ev), t8, t9, t10, none] ∧ DealAt H' dl cl ∧ Keep dl cl H H' ∧ H' L = some (.lst (cs.map fun c => V.str (chS [c]))) ∧ H' fo = some (.lst ((ns.map chS).map V.str)) ∧ ns.length = i ∧ ∀ j v, ns[j]? = some v → NmAt (cs.take pl) (cs.drop pl) fi ev j v) ?_ ?_ ?_
      · exact ⟨none, none, none, [], rfl, D5, k5, e5, e5', rfl, fun j v h => by cases h⟩
      · rintro i σ H6 hi ⟨t8, t9, t10, ns, rfl, D6, k6, e6, e6', l6, n6⟩
        have sg : ("abcdefghijklmnopqrstuvwxyz" : Str) = chS lowCs := by decide +kernel
        have lt26 : (fi + i) % 26 < 26 := Nat.mod_lt _ (by decide)
        have em : ((fi : Int) + (0 + (i : Int))) % 26 = (((fi + i) % 26 : Nat) : Int) := by omega
        have sgn : lowCs[(fi + i) % 26]? = some (97 + (fi + i) % 26) := by
          have all : ∀ k, k < 26 → lowCs[k]? = some (97 + k) := by decide
          exact all _ lt26
        let sg1 : List Nat := (97 + (fi + i) % 26) :: (if i < 26 then [] else [113])
        dsimp only [gName]
        refine seqBy (fun σ1 H7 => σ1 = [some (.ref dl), some (.int m), some (.str "abcdefghijklmnopqrstuvwxyz"), some (.ref L), some (.int pl), some (.int fi), some (.ref fo), some (.bl ev), some (.int (0 + i)), some (.str (chS sg1)), t10, none] ∧ H7 = H6) ?_ ?_
        · rintro σ1 _ ⟨rfl, rfl⟩
          refine seqBy (fun σ1 H8 => ∃ (rl : Addr) (d : Nat), σ1 = [some (.ref dl), some (.int m), some (.str "abcdefghijklmnopqrstuvwxyz"), some (.ref L), some (.int pl), some (.int fi), some (.ref fo), some (.bl ev), some (.int (0 + i)), some (.str (chS sg1)), some (.ref rl), none] ∧
              DealAt H8 dl cl ∧ Keep dl cl H H8 ∧ H8 L = some (.lst (cs.map fun c => V.str (chS [c]))) ∧ H8 fo = some (.lst ((ns.map chS).map V.str)) ∧ H8 rl = some (.lst ((if ev = true then cs.drop pl else (cs.drop pl).take d).map fun c => V.str (chS [c]))) ∧ rl ≠ fo) ?_ ?_
          · rintro σ1 H8 ⟨rl, d, rfl, D8, k8, e8, e8', e8'', rlf⟩
            refine ⟨_, rfl, .inl ⟨rfl, _, SqL.of e8'⟩, ⟨_, rfl⟩, _, rfl, _, rfl, _, rfl, _, _, rfl, SqL.of e8, fun x1 hx1 => ?_⟩
            let R : List Nat := if ev = true then cs.drop pl else (cs.drop pl).take d
            let ls : List (List Nat) := ((cs.take pl).map fun c => [c]) ++ [sg1] ++ (R.map fun c => [c])
            have lR : R.length ≤ 6 := by
              show (if ev = true then cs.drop pl else (cs.drop pl).take d).length ≤ 6
              split
              · rw [List.length_drop]
                omega
              · rw [List.length_take, List.length_drop]
                omega
            have lls : ls.length ≤ 13 := by
              show (((cs.take pl).map fun c => [c]) ++ [sg1] ++ (R.map fun c => [c])).length ≤ 13
              rw [List.length_append, List.length_append, List.length_map, List.length_map, List.length_take]
              have z : [sg1].length = 1 := rfl
              omega
            have short : ∀ y ∈ ls.map chS, y.length ≤ 2 := fun y hy => by
              obtain ⟨l0, hl0, rfl⟩ := List.mem_map.mp hy
              rw [chS_len]
              rcases List.mem_append.mp hl0 with z | z
              · rcases List.mem_append.mp z with z | z
                · obtain ⟨c, _, rfl⟩ := List.mem_map.mp z
                  exact (show 1 ≤ 2 by decide)
                · rw [List.mem_singleton.mp z]
                  show ((97 + (fi + i) % 26) :: (if i < 26 then ([] : List Nat) else [113])).length ≤ 2
                  split
                  · exact (show 1 ≤ 2 by decide)
                  · exact (show 2 ≤ 2 by decide)
              · obtain ⟨c, _, rfl⟩ := List.mem_map.mp z
                exact (show 1 ≤ 2 by decide)
            rw [cutTo]
            refine ⟨_, rfl, by show 1 ≤ sizeLine; decide, fun x2 hx2 => ?_⟩
            have x12 : x1 ≠ x2 := ne_of_none upd_same hx2
            refine ⟨_, _, _, _, rfl, rfl, (by rw [upd_ne x12]; exact upd_same), upd_same, ?_, fun x3 hx3 => ⟨_, rfl, ?_⟩⟩
            · rw [List.length_take, List.length_map]
              have z : [V.str (chS sg1)].length = 1 := rfl
              exact Nat.le_of_lt (small1000 (by omega))
            have s3 := ((smNew (o := .lst ((cs.map fun c => V.str (chS [c])).take pl)) hx1).trans (smNew (o := .lst [V.str (chS sg1)]) hx2)).trans (smNew (o := .lst ((cs.map fun c => V.str (chS [c])).take pl ++ [V.str (chS sg1)])) hx3)
            refine ⟨_, _, _, _, rfl, rfl, upd_same, s3 _ _ e8'', ?_, fun x4 hx4 => ?_⟩
            · show ((cs.map fun c => V.str (chS [c])).take pl ++ [V.str (chS sg1)]).length + (R.map fun c => V.str (chS [c])).length ≤ sizeLine
              rw [List.length_append, List.length_take, List.length_map, List.length_map]
              have z : [V.str (chS sg1)].length = 1 := rfl
              exact Nat.le_of_lt (small1000 (by omega))
            have el : (cs.map fun c => V.str (chS [c])).take pl ++ [V.str (chS sg1)] ++ R.map (fun c => V.str (chS [c])) = (ls.map chS).map V.str := by
              show _ = ((((cs.take pl).map fun c => [c]) ++ [sg1] ++ (R.map fun c => [c])).map chS).map V.str
              simp only [List.map_append, List.map_map, List.map_take, List.map_cons, List.map_nil]
              rfl
            have s4 := s3.trans (smNew (o := .lst ((cs.map fun c => V.str (chS [c])).take pl ++ [V.str (chS sg1)] ++ R.map (fun c => V.str (chS [c])))) hx4)
            refine ⟨_, _, ls.map chS, rfl, rfl, .inl (SqL.of (by rw [upd_same, ← el])), ?_, ?_⟩
            · have z := sumTwo (ls.map chS) short
              rw [List.length_map] at z
              have z0 : Str.length (Str.ofString "") = 0 := rfl
              rw [z0, Nat.mul_zero]
              omega
            refine ⟨_, _, _, rfl, rfl, s4 _ _ e8', small1000 (by rw [List.length_map, List.length_map]; omega), ?_⟩
            have ej : Txt.join (Str.ofString "") (ls.map chS) = chS (cs.take pl ++ sg1 ++ R) := by
              have z := join_chS ls
              have z2 : ls.flatten = cs.take pl ++ sg1 ++ R := by
                show (((cs.take pl).map fun c => [c]) ++ [sg1] ++ (R.map fun c => [c])).flatten = _
                rw [List.flatten_append, List.flatten_append, ones_flatten, ones_flatten]
                show cs.take pl ++ (sg1 ++ []) ++ R = _
                rw [List.append_nil]
              rw [z2] at z
              exact z
            have Lfo : L ≠ fo := fun z => by
              rw [z, e8'] at e8
              have q1 := HO.lst.inj (Option.some.inj e8)
              exact Lo z
            refine ⟨_, _, _, ns ++ [cs.take pl ++ sg1 ++ R], rfl, ?_, ?_, ?_, ?_, ?_, ?_⟩
            · exact ((((D8.new _ hx1).new _ hx2).new _ hx3).new _ hx4).new' fd' fc'
            · exact (keepOf ((k8.dc).trans (KS.of s4))).onto fo foH
            · rw [upd_ne Lfo]
              exact s4 _ _ e8
            · rw [upd_same, ej, List.map_append, List.map_append]
              rfl
            · rw [List.length_append, l6]
              rfl
            · intro j v hj
              by_cases lt : j < ns.length
              · rw [List.getElem?_append_left lt] at hj
                exact n6 j v hj
              · have je : j = ns.length := by
                  have q1 := (List.getElem?_eq_some_iff.mp hj).1
                  rw [List.length_append] at q1
                  have q2 : [cs.take pl ++ sg1 ++ R].length = 1 := rfl
                  omega
                subst je
                rw [List.getElem?_append_right (Nat.le_refl _), Nat.sub_self] at hj
                obtain rfl := Option.some.inj hj
                rw [l6]
                exact ⟨d, rfl⟩
          · intro nx
            refine ⟨_, rfl, _, rfl, ite2 (fun c1 => ?_) (fun c1 => ?_)⟩
            · refine ⟨_, rfl, _, rfl, _, rfl, _, _, rfl, SqL.of e6, fun x1 hx1 => ?_⟩
              rw [cutFrom]
              refine nx _ _ ⟨x1, 0, rfl, D6.new _ hx1, k6.onto x1 (noneBack k6 D6 hx1), ?_, ?_, ?_, ?_⟩
              · rw [upd_ne (ne_of_none e6 hx1)]
                exact e6
              · rw [upd_ne (ne_of_none e6' hx1)]
                exact e6'
              · rw [upd_same, if_pos c1, List.map_drop]
              · exact (ne_of_none e6' hx1).symm
            · refine ⟨_, rfl, _, rfl, _, rfl, _, rfl, _, rfl, dl, cl, _, rfl, D6, by decide, by decide, fun r H7 r0 r1 D7 k7 => ?_⟩
              obtain ⟨d, rfl⟩ := Int.eq_ofNat_of_zero_le r0
              refine ⟨_, _, rfl, rfl, _, rfl, _, _, rfl, SqL.of (k7 _ _ Ld Lc e6), fun x1 hx1 => ?_⟩
              have k67 := k6.trans k7
              have f7 := k7 _ _ fd' fc' e6'
              have L7 := k7 _ _ Ld Lc e6
              have cm : ((pl : Int) + (d : Int)) = ((pl + d : Nat) : Int) := by omega
              rw [cm, cutMid _ _ _ (by rw [List.length_map]; omega)]
              refine nx _ _ ⟨x1, d, rfl, D7.new _ hx1, k67.onto x1 (noneBack k67 D7 hx1), ?_, ?_, ?_, ?_⟩
              · rw [upd_ne (ne_of_none L7 hx1)]
                exact L7
              · rw [upd_ne (ne_of_none f7 hx1)]
                exact f7
              · rw [upd_same, if_neg c1, List.map_take, List.map_drop]
              · exact (ne_of_none f7 hx1).symm
        · intro nx
          refine ⟨_, rfl, _, rfl, _, rfl, _, _, rfl, rfl, .inl ⟨_, rfl, _, _, rfl, rfl, (by show (0 : Int) < 26; decide), ?_⟩⟩
          refine ⟨_, _, 97 + (fi + i) % 26, rfl, rfl, ?_, ?_, ?_⟩
          · decide +kernel
          · show atI lowCs (((fi : Int) + (0 + (i : Int))) % 26) = _
            rw [em]
            exact atI_nat sgn
          · refine ⟨_, rfl, _, _, rfl, rfl, _, rfl, ite2 (fun c1 => ?_) (fun c1 => ?_)⟩
            · refine ⟨_, _, rfl, rfl, by show 1 + 0 ≤ sizeLine; decide, nx _ _ ⟨?_, rfl⟩⟩
              have c2 : i < 26 := by
                have z := of_decide_eq_true c1
                omega
              have e1 : (⟨#[97 + (fi + i) % 26]⟩ : Str) ++ Str.ofString "" = chS sg1 := by
                rw [appS]
                show chS ((97 + (fi + i) % 26) :: []) = chS ((97 + (fi + i) % 26) :: (if i < 26 then [] else [113]))
                rw [if_pos c2]
              rw [e1]
              rfl
            · refine ⟨_, _, rfl, rfl, by show 1 + 1 ≤ sizeLine; decide, nx _ _ ⟨?_, rfl⟩⟩
              have c2 : ¬ i < 26 := fun h => c1 (decide_eq_true (by omega))
              have e1 : (⟨#[97 + (fi + i) % 26]⟩ : Str) ++ Str.ofString "q" = chS sg1 := by
                rw [appS]
                show chS ((97 + (fi + i) % 26) :: [113]) = chS ((97 + (fi + i) % 26) :: (if i < 26 then [] else [113]))
                rw [if_neg c2]
              rw [e1]
              rfl
      · rintro σ H6 ⟨t8, t9, t10, ns, rfl, D6, k6, e6, e6', l6, n6⟩
        refine ⟨_, rfl, _, rfl, dl, cl, fo, _, rfl, D6, SqL.of e6', by rw [List.length_map, List.length_map]; omega, fun p ys H9 hp pm e9 D9 k9 => ?_⟩
        obtain ⟨zs, rfl, pz⟩ := strPerm pm
        have nd : (ns.map chS).Nodup := nodup_of fun a b x y ab hx hy hxy => by
          rw [List.getElem?_map] at hx hy
          cases ea : ns[a]? with
          | none =>
            rw [ea] at hx
            cases hx
          | some u =>
            cases eb : ns[b]? with
            | none =>
              rw [eb] at hy
              cases hy
            | some v =>
              rw [ea] at hx
              rw [eb] at hy
              have bm : b < m := by
                have z := (List.getElem?_eq_some_iff.mp eb).1
                omega
              refine nm_apart m40 hev ab bm (n6 a u ea) (n6 b v eb) (chS_inj ?_)
              rw [Option.some.inj hx, Option.some.inj hy]
              exact hxy
        refine q p zs H9 (noneBack k6 D6 hp) e9 (by rw [pz.length_eq, List.length_map, l6]) (pz.nodup_iff.mpr nd) (fun z hz => ?_) D9 (k6.trans k9)
        obtain ⟨v, hv, rfl⟩ := List.mem_map.mp (pz.mem_iff.mp hz)
        obtain ⟨j, hj, ej⟩ := List.getElem_of_mem hv
        refine nm_is A6 B6 ?_ (n6 j v (by rw [← ej] <;> exact List.getElem?_eq_getElem hj))
        rw [List.length_take, List.length_drop]
        omega
    · intro nx
      refine ⟨_, rfl, _, _, rfl, rfl, _, rfl, ite2 (fun c1 => nx _ _ ⟨true, rfl, fun _ => rfl, D5, k5, e5, upd_same⟩) (fun c1 => ?_)⟩
      refine ⟨_, rfl, dl, cl, _, rfl, D5, by decide, by decide, fun r6 H6 a6 b6 D6 k6 => ⟨rfl, nx _ _ ⟨_, rfl, fun h => absurd (decide_eq_true (by omega)) c1, D6, k5.trans k6, k6 _ _ Ld Lc e5, k6 _ _ fd' fc' upd_same⟩⟩⟩
end
end L2.K2


namespace L2.Pc
open PySem L2 L2.Bv
/-! ### notes that are well told: no Python here -/
structure NtOk (ns : List Nt) : Prop where
  nd : (ns.map (·.1)).Nodup
  wt : ∀ j, j < ns.length → ∀ x ∈ waitAt ns j, ∃ k, k < j ∧ nameAt ns k = x
  wn : ∀ j, j < ns.length → (waitAt ns j).Nodup
theorem nodup_sub {α : Type} [DecidableEq α] : ∀ (l D : List α), l.Nodup → (∀ x ∈ l, x ∈ D) → l.length ≤ D.length
  | [], _, _, _ => Nat.zero_le _
  | x :: l, D, hn, hs => by
    obtain ⟨n1, n2⟩ := List.nodup_cons.mp hn
    have q := nodup_sub l (D.erase x) n2 fun y hy => (List.mem_erase_of_ne (fun e => n1 (by rw [← e]; exact hy))).2 (hs y (List.mem_cons_of_mem _ hy))
    have e := List.length_erase_of_mem (hs x List.mem_cons_self)
    have p : 0 < D.length := List.length_pos_of_mem (hs x List.mem_cons_self)
    rw [List.length_cons]
    omega
section
variable {ns : List Nt} {i j k : Nat}
theorem nameMap : ns.map (·.1) = (List.range ns.length).map (nameAt ns) := by
  refine List.ext_getElem? fun j => ?_
  rw [List.getElem?_map, List.getElem?_map]
  rcases Nat.lt_or_ge j ns.length with h | h
  · rw [List.getElem?_eq_getElem h, List.getElem?_range h]
    show some ns[j].1 = some (nameAt ns j)
    unfold nameAt
    rw [List.getD_eq_getElem?_getD, List.getElem?_eq_getElem h]
    rfl
  · rw [List.getElem?_eq_none_iff.mpr h, List.getElem?_eq_none_iff.mpr (by rw [List.length_range]; exact h)]
    rfl
theorem NtOk.inj (h : NtOk ns) (hi : i < ns.length) (hj : j < ns.length) (e : nameAt ns i = nameAt ns j) : i = j := by
  have nd := h.nd
  rw [nameMap] at nd
  have q := List.pairwise_iff_getElem.mp nd
  rcases Nat.lt_trichotomy i j with c | c | c
  · exact absurd (by rw [List.getElem_map, List.getElem_map, List.getElem_range, List.getElem_range]; exact e) (q i j (by rw [List.length_map, List.length_range]; exact hi) (by rw [List.length_map, List.length_range]; exact hj) c)
  · exact c
  · exact absurd (by rw [List.getElem_map, List.getElem_map, List.getElem_range, List.getElem_range]; exact e.symm) (q j i (by rw [List.length_map, List.length_range]; exact hj) (by rw [List.length_map, List.length_range]; exact hi) c)
theorem NtOk.wlen (h : NtOk ns) (hj : j < ns.length) : (waitAt ns j).length ≤ j := by
  have q := nodup_sub (waitAt ns j) ((List.range j).map (nameAt ns)) (h.wn j hj) fun x hx => by
    obtain ⟨k, a, b⟩ := h.wt j hj x hx
    exact List.mem_map.mpr ⟨k, List.mem_range.mpr a, b⟩
  rw [List.length_map, List.length_range] at q
  exact q
/-- the names of what lies under a note, each once -/
structure BelowOk (ns : List Nt) (j : Nat) (bs : List Str) : Prop where
  nd : bs.Nodup
  iff : ∀ x, x ∈ bs ↔ ∃ k, k ≤ j ∧ nameAt ns k = x ∧ Und ns k j
theorem BelowOk.len {bs : List Str} (h : BelowOk ns j bs) : bs.length ≤ j + 1 := by
  have q := nodup_sub bs ((List.range (j + 1)).map (nameAt ns)) h.nd fun x hx => by
    obtain ⟨k, a, b, _⟩ := (h.iff x).mp hx
    exact List.mem_map.mpr ⟨k, List.mem_range.mpr (Nat.lt_succ_of_le a), b⟩
  rw [List.length_map, List.length_range] at q
  exact q
theorem below_fin {bs : List Str} (nd : bs.Nodup) (h : ∀ x, x ∈ bs ↔ x = nameAt ns i ∨ ∃ k, Dir ns k i ∧ ∃ k', k' ≤ k ∧ nameAt ns k' = x ∧ Und ns k' k) : BelowOk ns i bs := by
  refine ⟨nd, fun x => ?_⟩
  rw [h x]
  constructor
  · rintro (rfl | ⟨k, d, k', a, b, c⟩)
    · exact ⟨i, Nat.le_refl _, rfl, .self _⟩
    · exact ⟨k', Nat.le_trans a (Nat.le_of_lt d.1), b, .step c d⟩
  · rintro ⟨k', a, b, c⟩
    rcases und_iff.mp c with rfl | ⟨k, d, u⟩
    · exact .inl b.symm
    · exact .inr ⟨k, d, k', u.le, b, u⟩
/-- the newest earlier one of a hand, or none -/
inductive Last (ns : List Nt) (i : Nat) (h : Str) : Option Nat → Prop where
  | no : (∀ k, k < i → handAt ns k ≠ h) → Last ns i h none
  | yes (k : Nat) : k < i → handAt ns k = h → (∀ l, k < l → l < i → handAt ns l ≠ h) → Last ns i h (some k)
theorem dir_iff (ok : NtOk ns) (hi : i < ns.length) {lk : Option Nat} (hl : Last ns i (handAt ns i) lk) (o : Str) : o ∈ waitAt ns i ++ (lk.toList.map (nameAt ns)) ↔ ∃ k, Dir ns k i ∧ nameAt ns k = o := by
  rw [List.mem_append]
  constructor
  · rintro (h | h)
    · obtain ⟨k, a, b⟩ := ok.wt i hi o h
      exact ⟨k, ⟨a, .inl (by rw [b]; exact h)⟩, b⟩
    · obtain ⟨k, hk, rfl⟩ := List.mem_map.mp h
      cases hl with
      | no q => cases hk
      | yes k0 a b c =>
        obtain rfl : k = k0 := by simpa using hk
        exact ⟨k, ⟨a, .inr ⟨b, fun l x y => c l x y⟩⟩, rfl⟩
  · rintro ⟨k, ⟨a, h | ⟨b, c⟩⟩, rfl⟩
    · exact .inl h
    · refine .inr ?_
      cases hl with
      | no q => exact absurd b (q k a)
      | yes k0 a0 b0 c0 =>
        have e : k = k0 := by
          rcases Nat.lt_trichotomy k k0 with z | z | z
          · exact absurd b0 (c k0 z a0)
          · exact z
          · exact absurd b (c0 k z a)
        rw [e]
        simp
theorem Last.next {h : Str} {lk : Option Nat} (hl : Last ns i h lk) : Last ns (i + 1) h (if handAt ns i = h then some i else lk) := by
  by_cases c : handAt ns i = h
  · rw [if_pos c]
    exact .yes i (Nat.lt_succ_self i) c fun l a b => absurd a (by omega)
  · rw [if_neg c]
    cases hl with
    | no q =>
      refine .no fun k a => ?_
      by_cases e : k = i
      · rw [e]
        exact c
      · exact q k (by omega)
    | yes k a b d =>
      refine .yes k (by omega) b fun l x y => ?_
      by_cases e : l = i
      · rw [e]
        exact c
      · exact d l x (by omega)
end
/-! ### notes in the heap -/
def NotesAt (K : PySem.W.Frag) (H : Hp) (vs : List V) (ns : List Nt) : Prop := vs.length = ns.length ∧ ∀ (i : Nat) (v : V), vs[i]? = some v → ∃ p q : Addr, v = .ref p ∧ SqT K H p [.str (nameAt ns i), .str (handAt ns i), .ref q] ∧ SqT K H q ((waitAt ns i).map V.str)
theorem sameT {K : PySem.W.Frag} {H H' : Hp} {a : Addr} {xs : List V} (e : Same H H') (h : SqT K H a xs) : SqT K H' a xs := by
  rcases h with (h | ⟨o, h⟩) | h
  · exact .inl (.inl (e _ _ h))
  · exact .inl (.inr ⟨o, e _ _ h⟩)
  · exact .inr h
theorem NotesAt.same {K : PySem.W.Frag} {H H' : Hp} {vs : List V} {ns : List Nt} (h : NotesAt K H vs ns) (e : Same H H') : NotesAt K H' vs ns :=
  ⟨h.1, fun i v hv => let ⟨p, q, a, b, c⟩ := h.2 i v hv; ⟨p, q, a, sameT e b, sameT e c⟩⟩
theorem inStr (x : Str) (ys : List Str) : inV (.str x) (ys.map V.str) = decide (x ∈ ys) := by
  unfold inV
  rw [List.any_map]
  induction ys with
  | nil => rfl
  | cons y r ih =>
    rw [List.any_cons, ih]
    show ((y == x) || decide (x ∈ r)) = decide (x ∈ y :: r)
    by_cases c : y = x
    · subst c
      simp
    · have c' : ¬ x = y := fun e => c e.symm
      simp [c, c']
theorem flatStr (ys : List Str) : (ys.map V.str).all flatV = true := by
  rw [List.all_map]
  exact List.all_eq_true.mpr fun _ _ => rfl
end L2.Pc


namespace L2.Pc
open PySem L2 L2.Bv
/-- a filtered list by its turns -/
theorem idx_filter {α β : Type} (p : α → Bool) (g : α → β) (d : α) : ∀ l : List α, (idx (fun q => p (l.getD q d)) l.length).map (fun q => g (l.getD q d)) = (l.filter p).map g := by
  intro l
  have e : l = (List.range l.length).map fun q => l.getD q d := by
    refine List.ext_getElem? fun j => ?_
    rw [List.getElem?_map]
    rcases Nat.lt_or_ge j l.length with h | h
    · rw [List.getElem?_range h, List.getElem?_eq_getElem h]
      show some l[j] = some (l.getD j d)
      rw [List.getD_eq_getElem?_getD, List.getElem?_eq_getElem h]
      rfl
    · rw [List.getElem?_eq_none_iff.mpr h, List.getElem?_eq_none_iff.mpr (by rw [List.length_range]; exact h)]
      rfl
  have e2 : l.filter p = (idx (fun q => p (l.getD q d)) l.length).map fun q => l.getD q d := by
    conv => lhs; rw [e]
    rw [List.filter_map]
    rfl
  rw [e2, List.map_map]
  rfl
/-- the lists of what lies under, by name, made since H0 -/
def FoundOk (ns : List Nt) (H0 H : Hp) (kvs : List (Key × V)) (n : Nat) : Prop := ∀ j, j < n → ∃ (b : Addr) (bs : List Str), valV kvs (.inr (nameAt ns j)) = some (.ref b) ∧ H b = some (.lst (bs.map V.str)) ∧ H0 b = none ∧ BelowOk ns j bs
theorem FoundOk.same {ns : List Nt} {H0 H H' : Hp} {kvs : List (Key × V)} {n : Nat} (h : FoundOk ns H0 H kvs n) (e : Same H H') : FoundOk ns H0 H' kvs n := fun j lt => let ⟨b, bs, a, c, d⟩ := h j lt; ⟨b, bs, a, e _ _ c, d⟩
end L2.Pc
namespace L2.K2
open PySem L2 L2.Bv L2.Pc
abbrev sUnders : Stmt := top 48
abbrev nUnders : List Str := ["notes", "found", "lasts", "name", "hand", "waits", "below", "other", "one"]
theorem scU : FnScope nUnders ["notes"] (defScope sUnders) := ⟨rfl, rfl, rfl, by decide +kernel, rfl, by decide +kernel, by decide +kernel⟩
def spUnders (K : PySem.W.Frag) : Sp := fun vs H Q _ => ∃ (a : Addr) (xs : List V) (ns : List Nt), vs = [.ref a] ∧ SqL K H a xs ∧ NotesAt K H xs ns ∧ NtOk ns ∧ ns.length ≤ 40 ∧
  ∀ (p : Addr) (kvs : List (Key × V)) (H' : Hp), Same H H' → H p = none → H' p = some (.dK kvs) → FoundOk ns H H' kvs ns.length → Q (.ref p) H'
/-- the keys: the names in their order -/
def KeyOf (ns : List Nt) (kvs : List (Key × V)) (n : Nat) : Prop := kvs.map (·.1) = (List.range n).map fun k => (Sum.inr (nameAt ns k) : Key)
theorem KeyOf.put {ns : List Nt} {kvs : List (Key × V)} {n : Nat} (h : KeyOf ns kvs n) (dis : ∀ k, k < n → nameAt ns k ≠ nameAt ns n) (v : V) : KeyOf ns (putK kvs (.inr (nameAt ns n)) v) (n + 1) := by
  have no : valV kvs (Sum.inr (nameAt ns n)) = none := by
    unfold valV
    rw [List.find?_eq_none.mpr fun kv hm c => ?_]
    · rfl
    have z : kv.1 ∈ kvs.map (·.1) := List.mem_map.mpr ⟨kv, hm, rfl⟩
    rw [h, of_decide_eq_true c] at z
    obtain ⟨k, lk, e⟩ := List.mem_map.mp z
    exact dis k (List.mem_range.mp lk) (Sum.inr.inj e)
  unfold KeyOf at h ⊢
  rw [putK_new v no, List.map_append, h, List.range_succ, List.map_append]
  rfl
def spUnders0 (K : PySem.W.Frag) : Sp := fun vs H Q _ => ∃ (a : Addr) (xs : List V) (ns : List Nt), vs = [.ref a] ∧ SqL K H a xs ∧ NotesAt K H xs ns ∧ NtOk ns ∧ ns.length ≤ 40 ∧
  ∀ (p : Addr) (kvs : List (Key × V)) (H' : Hp), Same H H' → H p = none → H' p = some (.dK kvs) → FoundOk ns H H' kvs ns.length → KeyOf ns kvs ns.length → Q (.ref p) H'
/-- the list of a hand's newest note -/
def LastAt (ns : List Nt) (H : Hp) (kl : List (Key × V)) (i : Nat) : Prop := ∀ h : Str, ∃ lk : Option Nat, Last ns i h lk ∧ ((lk = none ∧ valV kl (.inr h) = none) ∨ ∃ (k : Nat) (b : Addr), lk = some k ∧ valV kl (.inr h) = some (.ref b) ∧ H b = some (.lst [.str (nameAt ns k)]))
theorem LastAt.same {ns : List Nt} {H H' : Hp} {kl : List (Key × V)} {i : Nat} (h : LastAt ns H kl i) (e : Same H H') : LastAt ns H' kl i := fun x => by
  obtain ⟨lk, a, b⟩ := h x
  exact ⟨lk, a, b.imp id fun ⟨k, b, c1, c2, c3⟩ => ⟨k, b, c1, c2, e _ _ c3⟩⟩
section
variable {P : Program} {w : World} {K : PySem.W.Frag} {mg : Str → Option Value} {base : Heap}
theorem ok_unders0 {f : Addr} {fd : FuncData} (F : Fun K "_law_unders" "_law_unders" sUnders f fd) (ml : mg "list" = none) : FnOk P w K mg base CX0 1 f fd ["notes"] (spUnders0 K) := by
  refine F.ok scU (fun vs H Q E h => ?_) (fun cdv A outer s H vs Q E hr h => ?_)
  · obtain ⟨a, xs, ns, rfl, _⟩ := h
    rfl
  obtain ⟨a, xs, ns, rfl, hS, hN, ok, n40, q⟩ := h
  have hu := hu_of hr
  refine ⟨_, pss_cons (ps_par (i := 1) (j := 2) (by rfl) scU.nd rfl rfl (by decide) rfl rfl (pa_cons pe_dnewK (pa_cons pe_dnewK pa_nil)) (by rfl))
    (pss_cons (ps_for PassesOwn.never rfl (pi_list (pv 0)) (pg_tup rfl (pgs_cons (pg_name (i := 3) scU.nd rfl (Or.inl rfl)) (pgs_cons (pg_name (i := 4) scU.nd rfl (Or.inl rfl)) (pgs_cons (pg_name (i := 5) scU.nd rfl (Or.inl rfl)) pgs_nil))))
      (pss_cons (ps_set (i := 6) scU.nd rfl (Or.inr rfl) (pe_lst (pa_cons (pv 3) pa_nil)))
      (pss_cons (ps_for PassesOwn.never rfl (pi_list (pe_op op_cat (pe_callTy call_list_of (by rfl) ml (by decide +kernel) (pa_cons (pv 5) pa_nil)) (pe_dget2 hu (pv 2) (pv 4) (pe_lst pa_nil) ⟨rfl, rfl, rfl, rfl⟩))) (pg_name (i := 7) scU.nd rfl (Or.inl rfl))
        (pss_one (ps_set (i := 6) scU.nd rfl (Or.inr rfl) (pe_op op_cat (pv 6) (pe_lc (own := [("one", 8)]) (g := gName 8) (tt := _) rfl scU.nd (pi_list (pe_dget hu (pv 1) (pv 7) (fun _ _ => rfl)))
          (blkOk_by (N := nUnders) (sc := defScope sUnders) (by decide +kernel)) (fun _ _ _ _ _ => pg_name (i := 8) scU.nd rfl (Or.inl rfl)) (fun _ _ _ _ _ => pts_one (pt_cmpR (show OpR _ (compareOp .NotIn) (rIn K true) from op_notIn_seq) (pv 8) (pv 6) (by rfl))) (fun _ _ _ _ _ => pv 8))))))
      (pss_cons (ps_dput hu (pv 1) (pv 3) (pv 6) rfl)
      (pss_one (ps_dput hu (pv 2) (pv 4) (pe_lst (pa_cons (pv 3) pa_nil)) rfl))))))
    (pss_one (ps_ret (pv 1)))), ?_⟩
  refine fun fo hfo lo hlo => ⟨_, _, rfl, ?_⟩
  have fl : fo ≠ lo := ne_of_none upd_same hlo
  have hloH : H lo = none := by
    rw [upd_ne fl.symm] at hlo
    exact hlo
  have s0 : Same H (upd (upd H fo (.dK [])) lo (.dK [])) := (smNew hfo).trans (smNew hlo)
  refine ⟨_, rfl, a, rfl, ⟨_, s0.seq hS⟩, for_list (K := K) (a := a) (xs := xs) (fun i σ H1 => ∃ (t3 t4 t5 t6 t7 : Option V) (kf kl : List (Key × V)), σ = [some (.ref a), some (.ref fo), some (.ref lo), t3, t4, t5, t6, t7, none] ∧ Same H H1 ∧ H1 fo = some (.dK kf) ∧ H1 lo = some (.dK kl) ∧
    kf.length ≤ i ∧ kl.length ≤ i ∧ FoundOk ns H H1 kf i ∧ LastAt ns H1 kl i ∧ KeyOf ns kf i) ?_ ?_ ?_ ?_⟩
  · exact ⟨none, none, none, none, none, [], [], rfl, s0, by rw [upd_ne fl]; exact upd_same, upd_same, Nat.le_refl _, Nat.le_refl _, fun j lt => absurd lt (by omega), fun h => ⟨none, .no (fun k lt => absurd lt (by omega)), .inl ⟨rfl, rfl⟩⟩, rfl⟩
  · rintro i σ H1 _ ⟨_, _, _, _, _, _, _, _, s1, _⟩
    exact s1.seq hS
  · rintro i x σ H1 hx ⟨t3, t4, t5, t6, t7, kf, kl, rfl, s1, e1, e2, l1, l2, fk, lk, ky⟩
    obtain ⟨p, w0, rfl, hp, hw⟩ := (hN.same s1).2 i x hx
    have hi : i < ns.length := by
      have z := (List.getElem?_eq_some_iff.mp hx).1
      rw [hN.1] at z
      exact z
    have i40 : i < 40 := Nat.lt_of_lt_of_le hi n40
    have lkf : kf.length ≤ 40 := by omega
    have lkl : kl.length ≤ 40 := by omega
    refine ⟨p, _, rfl, hp, rfl, _, _, rfl, _, _, rfl, _, _, rfl, rfl, ?_⟩
    dsimp only [gName]
    refine ⟨_, rfl, by show 1 ≤ sizeLine; decide, fun c hc => ?_⟩
    dsimp only [gName]
    have s2 : Same H1 (upd H1 c (.lst [.str (nameAt ns i)])) := smNew hc
    refine ⟨_, rfl, _, _, rfl, .inr (sameT s2 hw), fun o1 ho1 => ?_⟩
    have s3 := s2.trans (smNew (o := .lst ((waitAt ns i).map V.str)) ho1)
    refine ⟨_, rfl, lo, rfl, .inl ⟨kl, .inl (s3 _ _ e2)⟩, _, rfl, by show 0 ≤ sizeLine; decide, fun o2 ho2 => ⟨_, DGet.k (k := Sum.inr (handAt ns i)) (smNew ho2 _ _ (s3 _ _ e2)), ?_⟩⟩
    have s4 := s3.trans (smNew (o := .lst []) ho2)
    obtain ⟨lkv, hL, hlk⟩ := lk (handAt ns i)
    obtain ⟨b, hb1, hb2⟩ : ∃ b, ((valV kl (.inr (handAt ns i))).getD (.ref o2)) = V.ref b ∧ upd (upd (upd H1 c (.lst [.str (nameAt ns i)])) o1 (.lst ((waitAt ns i).map V.str))) o2 (.lst []) b = some (.lst ((lkv.toList.map (nameAt ns)).map V.str)) := by
      rcases hlk with ⟨rfl, e⟩ | ⟨k, b, rfl, e, hb⟩
      · exact ⟨o2, by rw [e]; rfl, upd_same⟩
      · exact ⟨b, by rw [e]; rfl, s4 _ _ hb⟩
    let os : List Str := waitAt ns i ++ lkv.toList.map (nameAt ns)
    have osd := dir_iff ok hi hL
    have lw := ok.wlen hi
    have ll : (lkv.toList.map (nameAt ns)).length ≤ 1 := by
      rw [List.length_map]
      cases lkv with
      | none => exact Nat.zero_le _
      | some k => exact Nat.le_refl _
    have los : os.length ≤ 41 := by
      show (waitAt ns i ++ lkv.toList.map (nameAt ns)).length ≤ 41
      rw [List.length_append]
      omega
    refine ⟨_, b, _, _, rfl, hb1, smNew ho2 _ _ upd_same, hb2, ?_, fun o3 ho3 => ?_⟩
    · rw [List.length_map, List.length_map]
      exact Nat.le_of_lt (small1000 (by omega))
    have s5 := s4.trans (smNew (o := .lst ((waitAt ns i).map V.str ++ (lkv.toList.map (nameAt ns)).map V.str)) ho3)
    have eos : (waitAt ns i).map V.str ++ (lkv.toList.map (nameAt ns)).map V.str = os.map V.str := List.map_append.symm
    rw [eos] at s5 ⊢
    have cH : H c = none := s1.free hc
    have c5 := (((smNew (o := .lst ((waitAt ns i).map V.str)) ho1).trans (smNew (o := .lst []) ho2)).trans (smNew (o := .lst (os.map V.str)) ho3)) _ _ upd_same
    refine ⟨o3, rfl, ⟨_, SqL.of upd_same⟩, for_list (K := K) (a := o3) (xs := os.map V.str) (fun t σ H3 => ∃ (cc : Addr) (bs : List Str) (t7 : Option V), σ = [some (.ref a), some (.ref fo), some (.ref lo), some (.str (nameAt ns i)), some (.str (handAt ns i)), some (.ref w0), some (.ref cc), t7, none] ∧
      Same (upd (upd (upd (upd H1 c (.lst [.str (nameAt ns i)])) o1 (.lst ((waitAt ns i).map V.str))) o2 (.lst [])) o3 (.lst (os.map V.str))) H3 ∧ H3 cc = some (.lst (bs.map V.str)) ∧ H cc = none ∧ bs.Nodup ∧
      ∀ x, x ∈ bs ↔ x = nameAt ns i ∨ ∃ o ∈ os.take t, ∃ k, Dir ns k i ∧ nameAt ns k = o ∧ ∃ k', k' ≤ k ∧ nameAt ns k' = x ∧ Und ns k' k) ?_ ?_ ?_ ?_⟩
    · exact ⟨c, [nameAt ns i], t7, rfl, Same.refl _, c5, cH, List.nodup_cons.mpr ⟨by simp, List.nodup_nil⟩, fun x => by simp⟩
    · rintro t σ H3 _ ⟨_, _, _, _, s6, _⟩
      exact SqL.of (s6 _ _ upd_same)
    · rintro t x σ H3 hx ⟨cc, bs, t7, rfl, s6, ecc, hcc, nd, iff⟩
      obtain ⟨o, ho, rfl⟩ := strGet hx
      obtain ⟨k, dk, rfl⟩ := (osd o).mp (List.mem_of_getElem? ho)
      obtain ⟨bb, bsk, hv, hbb, hbn, bok⟩ := fk k dk.1
      have s16 := s5.trans s6
      have lbs : bs.length ≤ i + 1 := by
        have z := nodup_sub bs ((List.range (i + 1)).map (nameAt ns)) nd fun x hx => by
          rcases (iff x).mp hx with rfl | ⟨_, _, k1, d1, _, k', a1, a2, _⟩
          · exact List.mem_map.mpr ⟨i, List.mem_range.mpr (Nat.lt_succ_self i), rfl⟩
          · exact List.mem_map.mpr ⟨k', List.mem_range.mpr (by have := d1.1; omega), a2⟩
        rw [List.length_map, List.length_range] at z
        exact z
      have lbk := bok.len
      have dk1 := dk.1
      dsimp only [gName]
      refine ⟨_, rfl, _, rfl, _, rfl, fo, _, rfl, (by rw [← hv]; exact DGet.k (k := Sum.inr (nameAt ns k)) (s16 _ _ e1)), bb, rfl, ⟨_, SqL.of (s16 _ _ hbb)⟩, fun D hD => ?_⟩
      refine lcF (walk_list (K := K) (a := bb) (xs := bsk.map V.str)) (fun q => !decide (bsk.getD q Str.empty ∈ bs)) (fun q => V.str (bsk.getD q Str.empty)) hD (by rw [List.length_map]; omega) (fun H6 z => SqL.of (z _ _ (s16 _ _ hbb))) ?_ ?_
      · rintro j x H6 _ KT KF hj s7 ⟨rfl, hx⟩ kt kf
        obtain ⟨z, hz, rfl⟩ := strGet hx
        have ez : bsk.getD j Str.empty = z := by rw [List.getD_eq_getElem?_getD, hz]; rfl
        refine ⟨rfl, _, rfl, _, rfl, cc, _, rfl, .inl (SqL.of (s7 _ _ ecc)), rfl, flatStr bs, _, rfl, ?_⟩
        refine ite2 (fun c1 => ⟨_, rfl, kt _ _ ?_ (Same.refl _) (by rw [ez])⟩) (fun c1 => kf _ ?_ (Same.refl _))
        · rw [ez, ← inStr]
          exact c1
        · rw [ez, ← inStr]
          cases h0 : (!inV (.str z) (bs.map V.str)) with
          | false => rfl
          | true => exact absurd h0 c1
      · intro H6 s7 e7
        have e7' : H6 D = some (.lst ((bsk.filter fun z => !decide (z ∈ bs)).map V.str)) := by
          rw [e7, List.length_map, idx_filter (fun z => !decide (z ∈ bs)) V.str Str.empty bsk]
        refine ⟨cc, D, _, _, rfl, rfl, s7 _ _ ecc, e7', ?_, fun cn hcn => ?_⟩
        · rw [List.length_map, List.length_map]
          have z := List.length_filter_le (fun z => !decide (z ∈ bs)) bsk
          exact Nat.le_of_lt (small1000 (by omega))
        · refine ⟨cn, bs ++ bsk.filter (fun z => !decide (z ∈ bs)), _, rfl, (s6.trans s7).trans (smNew hcn), ?_, (s1.trans (s16.trans s7)).free hcn, ?_, fun x => ?_⟩
          · rw [upd_same, List.map_append]
          · refine List.nodup_append.mpr ⟨nd, bok.nd.filter _, fun u hu v hv e => ?_⟩
            have z := (List.mem_filter.mp hv).2
            rw [← e] at z
            simp [hu] at z
          · have tk : os.take (t + 1) = os.take t ++ [nameAt ns k] := by
              rw [List.take_add_one, ho]
              rfl
            rw [List.mem_append, iff x, tk]
            constructor
            · rintro ((h | ⟨o', m', r⟩) | h)
              · exact .inl h
              · exact .inr ⟨o', List.mem_append.mpr (.inl m'), r⟩
              · obtain ⟨k', a1, a2, a3⟩ := (bok.iff x).mp (List.mem_filter.mp h).1
                exact .inr ⟨nameAt ns k, List.mem_append.mpr (.inr List.mem_cons_self), k, dk, rfl, k', a1, a2, a3⟩
            · rintro (h | ⟨o', m', k1, d1, e1', k', a1, a2, a3⟩)
              · exact .inl (.inl h)
              · rcases List.mem_append.mp m' with m' | m'
                · exact .inl (.inr ⟨o', m', k1, d1, e1', k', a1, a2, a3⟩)
                · have kk : k1 = k := ok.inj (Nat.lt_trans d1.1 hi) (Nat.lt_trans dk.1 hi) (by rw [e1', List.mem_singleton.mp m'])
                  subst kk
                  by_cases xb : x ∈ bs
                  · exact .inl ((iff x).mp xb)
                  · exact .inr (List.mem_filter.mpr ⟨(bok.iff x).mpr ⟨k', a1, a2, a3⟩, by simp [xb]⟩)
    · rintro σ H3 ⟨cc, bs, t7, rfl, s6, ecc, hcc, nd, iff⟩
      rw [List.length_map, List.take_length] at iff
      have bok : BelowOk ns i bs := below_fin nd fun x => by
        rw [iff x]
        constructor
        · rintro (h | ⟨o', m', k1, d1, e1', r⟩)
          · exact .inl h
          · exact .inr ⟨k1, d1, r⟩
        · rintro (h | ⟨k1, d1, r⟩)
          · exact .inl h
          · exact .inr ⟨nameAt ns k1, (osd _).mpr ⟨k1, d1, rfl⟩, k1, d1, rfl, r⟩
      have s16 := s5.trans s6
      have f3 := s16 _ _ e1
      have l3 := s16 _ _ e2
      have cf : cc ≠ fo := fun z => by
        rw [z, f3] at ecc
        cases ecc
      have cl0 : cc ≠ lo := fun z => by
        rw [z, l3] at ecc
        cases ecc
      refine ⟨_, rfl, _, rfl, _, rfl, fo, _, rfl, DPut.k (k := Sum.inr (nameAt ns i)) f3 (small1000 (by omega)), ?_⟩
      refine ⟨_, rfl, by show 1 ≤ sizeLine; decide, fun d hd => ⟨_, rfl, _, rfl, lo, _, rfl, DPut.k (kvs := kl) (k := Sum.inr (handAt ns i)) ?_ (small1000 (by omega)), ?_⟩⟩
      · rw [upd_ne (ne_of_none (by rw [upd_ne fl.symm]; exact l3) hd), upd_ne fl.symm]
        exact l3
      · have h3d : H3 d = none := by
          by_cases z : d = fo
          · rw [z, upd_same] at hd
            cases hd
          · rw [upd_ne z] at hd
            exact hd
        have dlo : d ≠ lo := fun z => by
          rw [z, l3] at h3d
          cases h3d
        have dfo : d ≠ fo := fun z => by
          rw [z, f3] at h3d
          cases h3d
        -- lists stand
        have stand : ∀ (u : Addr) (xs0 : List V), H3 u = some (.lst xs0) → upd (upd (upd H3 fo (.dK (putK kf (.inr (nameAt ns i)) (.ref cc)))) d (.lst [.str (nameAt ns i)])) lo (.dK (putK kl (.inr (handAt ns i)) (.ref d))) u = some (.lst xs0) := fun u xs0 hu3 => by
          have n1 : u ≠ lo := fun z => by
            rw [z, l3] at hu3
            cases hu3
          have n2 : u ≠ fo := fun z => by
            rw [z, f3] at hu3
            cases hu3
          have n3 : u ≠ d := fun z => by
            rw [z, h3d] at hu3
            cases hu3
          rw [upd_ne n1, upd_ne n3, upd_ne n2]
          exact hu3
        refine ⟨_, _, _, _, _, putK kf (.inr (nameAt ns i)) (.ref cc), putK kl (.inr (handAt ns i)) (.ref d), rfl, ?_, ?_, upd_same, ?_, ?_, ?_, ?_, ky.put (fun k lk z => absurd (ok.inj (by omega) hi z) (by omega)) _⟩
        · intro u v e
          have n1 : u ≠ lo := fun z => by
            rw [z, hloH] at e
            cases e
          have n2 : u ≠ fo := fun z => by
            rw [z, hfo] at e
            cases e
          have e3 := s16 _ _ (s1 _ _ e)
          have n3 : u ≠ d := fun z => by
            rw [z, h3d] at e3
            cases e3
          rw [upd_ne n1, upd_ne n3, upd_ne n2]
          exact e3
        · rw [upd_ne fl, upd_ne dfo.symm]
          exact upd_same
        · exact Nat.le_trans (length_putK _ _ _) (Nat.succ_le_succ l1)
        · exact Nat.le_trans (length_putK _ _ _) (Nat.succ_le_succ l2)
        · intro j hj
          by_cases ji : j = i
          · subst ji
            exact ⟨cc, bs, by rw [valV_put, if_pos rfl], stand _ _ ecc, hcc, bok⟩
          · obtain ⟨b1, bs1, v1, v2, v3, v4⟩ := fk j (by omega)
            refine ⟨b1, bs1, ?_, stand _ _ (s16 _ _ v2), v3, v4⟩
            rw [valV_put, if_neg (fun z => ji (ok.inj (by omega) hi (Sum.inr.inj z)))]
            exact v1
        · intro h
          obtain ⟨lk0, q1, q2⟩ := lk h
          refine ⟨_, q1.next, ?_⟩
          by_cases hc0 : handAt ns i = h
          · rw [if_pos hc0]
            refine .inr ⟨i, d, rfl, by rw [valV_put, if_pos (by rw [hc0])], ?_⟩
            rw [upd_ne dlo]
            exact upd_same
          · rw [if_neg hc0]
            have ng : ¬ (Sum.inr h : Key) = Sum.inr (handAt ns i) := fun z => hc0 (Sum.inr.inj z).symm
            rcases q2 with ⟨z1, z2⟩ | ⟨k1, b1, z1, z2, z3⟩
            · exact .inl ⟨z1, by rw [valV_put, if_neg ng]; exact z2⟩
            · exact .inr ⟨k1, b1, z1, by rw [valV_put, if_neg ng]; exact z2, stand _ _ (s16 _ _ z3)⟩
  · rintro σ H1 ⟨t3, t4, t5, t6, t7, kf, kl, rfl, s1, e1, e2, l1, l2, fk, lk, ky⟩
    rw [hN.1] at fk ky
    exact ⟨_, rfl, q fo kf H1 s1 hfo e1 fk ky⟩
theorem ok_unders {f : Addr} {fd : FuncData} (F : Fun K "_law_unders" "_law_unders" sUnders f fd) (ml : mg "list" = none) : FnOk P w K mg base CX0 1 f fd ["notes"] (spUnders K) :=
  (ok_unders0 F ml).imp fun vs H Q E h => by
    obtain ⟨a, xs, ns, e, h1, h2, h3, h4, q⟩ := h
    exact ⟨a, xs, ns, e, h1, h2, h3, h4, fun p kvs H' s n e' f _ => q p kvs H' s n e' f⟩
end
end L2.K2


namespace L2.Bv
open PySem L2 L2.Ts
/-! ### one of two readings -/
section
variable {X : Cx} {e tg iter a b : Expr} {op : CmpOp} {es : List Expr}
def eE (t u : TE) : TE := fun σ H Q => t σ H Q ∨ u σ H Q
def eI (t u : TI) : TI := fun σ H R => t σ H R ∨ u σ H R
theorem pe_either {t u : TE} (h : PE X e t) (k : PE X e u) : PE X e (eE t u) := ⟨fun pins s σ H Q I z => z.elim (h.run pins s σ H Q I) (k.run pins s σ H Q I)⟩
theorem pc_either {t u : TE} (h : PC X op a b t) (k : PC X op a b u) : PC X op a b (eE t u) := ⟨fun pins s σ H Q I z => z.elim (h.run pins s σ H Q I) (k.run pins s σ H Q I)⟩
theorem pi_either {t u : TI} (h : PI X tg iter t) (k : PI X tg iter u) : PI X tg iter (eI t u) := ⟨fun pins s σ H R I z => z.elim (h.run pins s σ H R I) (k.run pins s σ H R I)⟩
end
/-- a list or a tuple -/
def SqE (K : PySem.W.Frag) (H : Hp) (a : Addr) (xs : List V) : Prop := SqL K H a xs ∨ SqT K H a xs
section
variable {K : PySem.W.Frag} {H H' : Hp} {a : Addr} {xs : List V}
theorem sqL_at (h : SqL K H a xs) (e : ∀ o, H a = some o → H' a = some o) : SqL K H' a xs := by
  rcases h with (h | ⟨o, h⟩) | h
  · exact .inl (.inl (e _ h))
  · exact .inl (.inr ⟨o, e _ h⟩)
  · exact .inr h
theorem sqT_at (h : SqT K H a xs) (e : ∀ o, H a = some o → H' a = some o) : SqT K H' a xs := by
  rcases h with (h | ⟨o, h⟩) | h
  · exact .inl (.inl (e _ h))
  · exact .inl (.inr ⟨o, e _ h⟩)
  · exact .inr h
theorem SqE.at (h : SqE K H a xs) (e : ∀ o, H a = some o → H' a = some o) : SqE K H' a xs := h.imp (fun z => sqL_at z e) fun z => sqT_at z e
theorem SqE.same (h : SqE K H a xs) (e : Same H H') : SqE K H' a xs := h.at fun o z => e _ _ z
/-- a list or a tuple under a name, walked; what was known of it was known at H0 -/
theorem overBoth {R : It → Hp → Prop} {σ : St} {i : Nat} {H0 : Hp} (e : σ[i]? = some (some (.ref a))) (h : SqE K H0 a xs) (s : ∀ o, H0 a = some o → H a = some o) (go : ∀ (J : It) (G : Hp → Prop), Walk J xs.length G (YAt xs) → (∀ H', (∀ o, H0 a = some o → H' a = some o) → G H') → R J H) :
    eI (iList K (tVar i)) (iTup K (tVar i)) σ H R := by
  rcases h with h | h
  · exact .inl ⟨_, e, a, rfl, ⟨_, sqL_at h s⟩, go _ _ (walk_list (K := K) (a := a)) fun H' e => sqL_at h e⟩
  · exact .inr ⟨_, e, a, rfl, ⟨_, sqT_at h s⟩, go _ _ (walk_tup (K := K) (a := a)) fun H' e => sqT_at h e⟩
/-- a list or a tuple under a name, walked with its turns' numbers -/
theorem enumBoth {R : It → Hp → Prop} {σ : St} {i : Nat} {H0 : Hp} (e : σ[i]? = some (some (.ref a))) (h : SqE K H0 a xs) (s : ∀ o, H0 a = some o → H a = some o) (go : ∀ (J : It) (G : Hp → Prop), Walk J xs.length G (YPair (fun i => some (.int (i : Nat))) (fun i => xs[i]?)) → (∀ H', (∀ o, H0 a = some o → H' a = some o) → G H') → R J H) :
    eI (iEnum K (tCons (tVar i) tNil)) (iEnumT K (tCons (tVar i) tNil)) σ H R := by
  rcases h with h | h
  · exact .inl ⟨_, e, a, _, rfl, sqL_at h s, go _ _ (walk_enum (K := K) (a := a)) fun H' e => sqL_at h e⟩
  · exact .inr ⟨_, e, a, _, rfl, sqT_at h s, go _ _ (walk_enumT (K := K) (a := a)) fun H' e => sqT_at h e⟩
end
end L2.Bv
namespace L2.Pc
open PySem L2 L2.Bv
/-! ### masks: no Python here -/
/-- the masks at some places, joined -/
def joinM (ms : List Nat) (js : List Nat) : Nat := js.foldl (fun acc j => acc ||| ms.getD j 0) 0
theorem joinM_bit (ms : List Nat) (i : Nat) : ∀ (js : List Nat) (acc : Nat), (js.foldl (fun acc j => acc ||| ms.getD j 0) acc).testBit i = true ↔ acc.testBit i = true ∨ ∃ j ∈ js, (ms.getD j 0).testBit i = true
  | [], acc => by simp
  | j :: r, acc => by
    rw [List.foldl_cons, joinM_bit ms i r, Nat.testBit_or, Bool.or_eq_true]
    constructor
    · rintro ((h | h) | ⟨k, a, b⟩)
      · exact .inl h
      · exact .inr ⟨j, List.mem_cons_self, h⟩
      · exact .inr ⟨k, List.mem_cons_of_mem _ a, b⟩
    · rintro (h | ⟨k, a, b⟩)
      · exact .inl (.inl h)
      · rcases List.mem_cons.mp a with rfl | a
        · exact .inl (.inr b)
        · exact .inr ⟨k, a, b⟩
theorem joinM_iff {ms js : List Nat} {i : Nat} : (joinM ms js).testBit i = true ↔ ∃ j ∈ js, (ms.getD j 0).testBit i = true := by
  unfold joinM
  rw [joinM_bit]
  simp
/-- the masks of some notes: their bits tell what lies under them -/
def MaskOk (ns : List Nt) (ms : List Nat) (n : Nat) : Prop := ms.length = n ∧ ∀ j, j < n → ∀ i, (ms.getD j 0).testBit i = true ↔ Und ns i j
end L2.Pc


namespace L2.K2
open PySem L2 L2.Bv L2.Pc L2.Ts
abbrev sJoined : Stmt := top 22
theorem scJ : FnScope ["masks", "numbers", "joined", "number"] ["masks", "numbers"] (defScope sJoined) := ⟨rfl, rfl, rfl, by decide +kernel, rfl, by decide +kernel, by decide +kernel⟩
abbrev nV (n : Nat) : V := .int (n : Int)
def spJoined (K : PySem.W.Frag) : Sp := fun vs H Q _ => ∃ (a b : Addr) (ms js : List Nat), vs = [.ref a, .ref b] ∧ SqE K H a (ms.map nV) ∧ SqL K H b (js.map nV) ∧ (∀ j ∈ js, j < ms.length) ∧ Q (nV (joinM ms js)) H
theorem natGet {ms : List Nat} {i : Nat} {x : V} (h : (ms.map nV)[i]? = some x) : ∃ z, ms[i]? = some z ∧ x = nV z := by
  rw [List.getElem?_map] at h
  cases e : ms[i]? with
  | none =>
    rw [e] at h
    cases h
  | some z =>
    rw [e] at h
    exact ⟨z, rfl, (Option.some.inj h).symm⟩
theorem orNat (a b : Nat) : Builtin.bitOr (a : Int) (b : Int) = ((a ||| b : Nat) : Int) := by
  have z := Bits.bitOr_pp (x := (a : Int)) (y := (b : Int)) (by omega) (by omega)
  rw [z, Int.toNat_natCast, Int.toNat_natCast]
section
variable {P : Program} {w : World} {K : PySem.W.Frag} {mg : Str → Option Value} {base : Heap}
theorem ok_joined {f : Addr} {fd : FuncData} (F : Fun K "joined_mask" "joined_mask" sJoined f fd) : FnOk P w K mg base CX0 1 f fd ["masks", "numbers"] (spJoined K) := by
  refine F.ok scJ (fun vs H Q E h => ?_) (fun cdv A outer s H vs Q E hr h => ?_)
  · obtain ⟨a, b, ms, js, rfl, _⟩ := h
    rfl
  obtain ⟨a, b, ms, js, rfl, hm, hj, lt, q⟩ := h
  refine ⟨_, pss_cons (ps_set (i := 2) scJ.nd rfl (Or.inl rfl) pe_int)
    (pss_cons (ps_for PassesOwn.never rfl (pi_list (pv 1)) (pg_name (i := 3) scJ.nd rfl (Or.inl rfl))
      (pss_one (ps_set (i := 2) scJ.nd rfl (Or.inl rfl) (pe_op op_or (pv 2) (pe_ix ix_seq (pv 0) (pv 3) (fun _ _ => rfl))))))
    (pss_one (ps_ret (pv 2)))), ?_⟩
  refine ⟨_, rfl, b, rfl, ⟨_, hj⟩, for_list (K := K) (a := b) (xs := js.map nV) (fun i σ H1 => ∃ t : Option V, σ = [some (.ref a), some (.ref b), some (nV (joinM ms (js.take i))), t] ∧ H1 = H) ⟨none, rfl, rfl⟩ (fun i σ H1 _ ⟨_, _, e⟩ => by rw [e]; exact hj) ?_ ?_⟩
  · rintro i x σ H1 hx ⟨t, rfl, rfl⟩
    obtain ⟨j, hj', rfl⟩ := natGet hx
    have lj := lt j (List.mem_of_getElem? hj')
    have ea : atI (ms.map nV) (j : Int) = some (nV (ms.getD j 0)) := by
      refine atI_nat ?_
      rw [List.getElem?_map, List.getElem?_eq_getElem lj, List.getD_eq_getElem?_getD, List.getElem?_eq_getElem lj]
      rfl
    have fin : ∃ t : Option V, [some (V.ref a), some (.ref b), some (.int (Builtin.bitOr (joinM ms (js.take i) : Nat) (ms.getD j 0 : Nat))), some (nV j)] = [some (.ref a), some (.ref b), some (nV (joinM ms (js.take (i + 1)))), t] ∧ H1 = H1 := by
      refine ⟨some (nV j), ?_, rfl⟩
      rw [orNat]
      have e2 : joinM ms (js.take (i + 1)) = joinM ms (js.take i) ||| ms.getD j 0 := by
        unfold joinM
        rw [List.take_add_one, hj', List.foldl_append]
        rfl
      rw [e2]
    rcases hm with hm | hm
    · exact ⟨_, rfl, _, rfl, _, rfl, .inl ⟨_, _, _, _, rfl, rfl, hm, ea, _, _, rfl, rfl, fin⟩⟩
    · exact ⟨_, rfl, _, rfl, _, rfl, .inr (.inl ⟨_, _, _, _, rfl, rfl, hm, ea, _, _, rfl, rfl, fin⟩)⟩
  · rintro σ _ ⟨t, rfl, rfl⟩
    rw [List.length_map, List.take_length]
    exact ⟨_, rfl, q⟩
end
end L2.K2


namespace L2.Pc
open PySem L2 L2.Bv
/-- the number of a name -/
def numOf (ns : List Nt) (x : Str) : Nat := ((List.range ns.length).find? fun k => decide (nameAt ns k = x)).getD 0
theorem numOf_name {ns : List Nt} (ok : NtOk ns) {k : Nat} (hk : k < ns.length) : numOf ns (nameAt ns k) = k := by
  unfold numOf
  cases e : (List.range ns.length).find? fun j => decide (nameAt ns j = nameAt ns k) with
  | none =>
    have z := List.find?_eq_none.mp e k (List.mem_range.mpr hk)
    simp at z
  | some j =>
    have z := List.find?_some e
    have m := List.mem_range.mp (List.mem_of_find?_eq_some e)
    exact ok.inj m hk (of_decide_eq_true z)
theorem dir_num {ns : List Nt} (ok : NtOk ns) {i : Nat} (hi : i < ns.length) {lk : Option Nat} (hl : Last ns i (handAt ns i) lk) (j : Nat) : j ∈ (waitAt ns i).map (numOf ns) ++ lk.toList ↔ Dir ns j i := by
  rw [List.mem_append]
  constructor
  · rintro (h | h)
    · obtain ⟨o, ho, rfl⟩ := List.mem_map.mp h
      obtain ⟨k, a, rfl⟩ := ok.wt i hi o ho
      rw [numOf_name ok (Nat.lt_trans a hi)]
      exact ⟨a, .inl ho⟩
    · cases hl with
      | no q => cases h
      | yes k0 a b c =>
        obtain rfl : j = k0 := by simpa using h
        exact ⟨a, .inr ⟨b, fun l x y => c l x y⟩⟩
  · intro d
    rcases d.2 with h | ⟨b, c⟩
    · exact .inl (List.mem_map.mpr ⟨_, h, numOf_name ok (Nat.lt_trans d.1 hi)⟩)
    · refine .inr ?_
      have a := d.1
      cases hl with
      | no q => exact absurd b (q j a)
      | yes k0 a0 b0 c0 =>
        have e : j = k0 := by
          rcases Nat.lt_trichotomy j k0 with z | z | z
          · exact absurd b0 (c k0 z a0)
          · exact z
          · exact absurd b (c0 j z a)
        rw [e]
        simp
theorem mask_next {ns : List Nt} {ms : List Nat} {i : Nat} (m : MaskOk ns ms i) {js : List Nat} (hj : ∀ j, j ∈ js ↔ Dir ns j i) : MaskOk ns (ms ++ [2 ^ i ||| joinM ms js]) (i + 1) := by
  refine ⟨by rw [List.length_append, m.1]; rfl, fun j lt b => ?_⟩
  by_cases ji : j = i
  · subst ji
    have e : (ms ++ [2 ^ j ||| joinM ms js]).getD j 0 = 2 ^ j ||| joinM ms js := by
      rw [List.getD_eq_getElem?_getD, List.getElem?_append_right (by rw [m.1]; exact Nat.le_refl _), m.1, Nat.sub_self]
      rfl
    rw [e, Nat.testBit_or, Bool.or_eq_true, joinM_iff, Nat.testBit_two_pow, decide_eq_true_eq, und_iff]
    constructor
    · rintro (h | ⟨k, hk, h⟩)
      · exact .inl h.symm
      · have d := (hj k).mp hk
        exact .inr ⟨k, d, (m.2 k d.1 b).mp h⟩
    · rintro (h | ⟨k, d, h⟩)
      · exact .inl h.symm
      · exact .inr ⟨k, (hj k).mpr d, (m.2 k d.1 b).mpr h⟩
  · have lt2 : j < i := by omega
    have e : (ms ++ [2 ^ i ||| joinM ms js]).getD j 0 = ms.getD j 0 := by
      rw [List.getD_eq_getElem?_getD, List.getElem?_append_left (by rw [m.1]; exact lt2), ← List.getD_eq_getElem?_getD]
    rw [e]
    exact m.2 j lt2 b
theorem idx_list {α β : Type} (g : α → β) (d : α) (l : List α) : (idx (fun _ => true) l.length).map (fun q => g (l.getD q d)) = l.map g := by
  have z := idx_filter (fun _ => true) g d l
  rw [List.filter_eq_self.mpr fun _ _ => rfl] at z
  exact z
end L2.Pc
namespace L2.K2
open PySem L2 L2.Bv L2.Pc L2.Ts
abbrev sMasks : Stmt := top 21
abbrev nMasks : List Str := ["notes", "numbers", "newest", "masks", "at", "name", "hand", "waits", "waited", "wait"]
theorem scMk : FnScope nMasks ["notes"] (defScope sMasks) := ⟨rfl, rfl, rfl, by decide +kernel, rfl, by decide +kernel, by decide +kernel⟩
def spMasks (K : PySem.W.Frag) : Sp := fun vs H Q _ => ∃ (a : Addr) (xs : List V) (ns : List Nt), vs = [.ref a] ∧ SqE K H a xs ∧ NotesAt K H xs ns ∧ NtOk ns ∧ ns.length ≤ 40 ∧
  ∀ (p : Addr) (ms : List Nat) (H' : Hp), Same H H' → H p = none → H' p = some (.tup (ms.map nV)) → MaskOk ns ms ns.length → Q (.ref p) H'
section
variable {P : Program} {w : World} {K : PySem.W.Frag} {mg : Str → Option Value} {base : Heap}
theorem ok_masks {f : Addr} {fd : FuncData} (F : Fun K "under_masks" "under_masks" sMasks f fd) (J : Dn P w K mg base 1 "joined_mask" ["masks", "numbers"] (spJoined K)) (me : mg "enumerate" = none) (mt : mg "tuple" = none) : FnOk P w K mg base CX0 2 f fd ["notes"] (spMasks K) := by
  obtain ⟨g, gd, G, kG, bG, mG⟩ := J.ex
  refine F.ok scMk (fun vs H Q E h => ?_) (fun cdv A outer s H vs Q E hr h => ?_)
  · obtain ⟨a, xs, ns, rfl, _⟩ := h
    rfl
  obtain ⟨a, xs, ns, rfl, hS, hN, ok, n40, q⟩ := h
  have hu := hu_of hr
  refine ⟨_, pss_cons (ps_set (i := 1) scMk.nd rfl (Or.inr rfl) pe_dnewK)
    (pss_cons (ps_set (i := 2) scMk.nd rfl (Or.inl rfl) pe_dnewK)
    (pss_cons (ps_set (i := 3) scMk.nd rfl (Or.inl rfl) (pe_lst pa_nil))
    (pss_cons (ps_for PassesOwn.never rfl (pi_either (pi_enum (by rfl) me (pa_cons (pv 0) pa_nil)) (pi_enumT (by rfl) me (pa_cons (pv 0) pa_nil)))
        (pg_tup rfl (pgs_cons (pg_name (i := 4) scMk.nd rfl (Or.inl rfl)) (pgs_cons (pg_tup rfl (pgs_cons (pg_name (i := 5) scMk.nd rfl (Or.inl rfl)) (pgs_cons (pg_name (i := 6) scMk.nd rfl (Or.inl rfl)) (pgs_cons (pg_name (i := 7) scMk.nd rfl (Or.inl rfl)) pgs_nil)))) pgs_nil)))
      (pss_cons (ps_setLc (i := 8) (own := [("wait", 9)]) (g := gName 9) (tt := tYes) rfl scMk.nd rfl rfl (sw_true rfl rfl rfl (by decide +kernel)) (pi_tup (pv 7)) (blkOk_by (N := nMasks) (sc := defScope sMasks) (by decide +kernel)) (fun _ _ _ _ _ => pg_name (i := 9) scMk.nd rfl (Or.inl rfl)) (fun _ _ _ _ _ => pts_nil)
          (fun _ _ _ _ _ => pe_dget hu (pv 1) (pv 9) (fun _ _ => rfl)))
      (pss_cons (ps_if (pt_cmp (pc_din hu (pv 6) (pv 2))) (pss_one (ps_expr (pe_bm PySem.F.plainAttrs_list PySem.F.slot_list_append PySem.F.type_list_append mt_append (pv 8) (pa_cons (pe_dget hu (pv 2) (pv 6) (fun _ _ => rfl)) pa_nil)))) pss_nil)
      (pss_cons (ps_expr (pe_bm PySem.F.plainAttrs_list PySem.F.slot_list_append PySem.F.type_list_append mt_append (pv 3) (pa_cons (pe_op op_or (pe_op op_shl pe_int (pv 4)) (pe_call G hr rfl mG kG bG .nil pass0 (pa_cons (pv 3) (pa_cons (pv 8) pa_nil)))) pa_nil)))
      (pss_cons (ps_dput hu (pv 1) (pv 5) (pv 4) rfl)
      (pss_one (ps_dput hu (pv 2) (pv 6) (pv 4) rfl)))))))
    (pss_one (ps_ret (pe_callTy call_tuple_of (by rfl) mt (by decide +kernel) (pa_cons (pv 3) pa_nil))))))), ?_⟩
  intro nu hnu nw hnw
  refine ⟨by show 0 ≤ sizeLine; decide, fun mk hmk => ?_⟩
  have n12 : nu ≠ nw := ne_of_none upd_same hnw
  have nwH : H nw = none := by
    rw [upd_ne n12.symm] at hnw
    exact hnw
  have n13 : nu ≠ mk := ne_of_none (by rw [upd_ne n12]; exact upd_same) hmk
  have n23 : nw ≠ mk := ne_of_none upd_same hmk
  have mkH : H mk = none := by
    rw [upd_ne n23.symm, upd_ne n13.symm] at hmk
    exact hmk
  have s0 : Same H (upd (upd (upd H nu (.dK [])) nw (.dK [])) mk (.lst [])) := ((smNew hnu).trans (smNew hnw)).trans (smNew hmk)
  dsimp only [gName]
  refine enumBoth rfl hS (fun o z => s0 _ _ z) fun It G wk hG => ?_
  refine for_it wk (fun i σ H1 => ∃ (t4 t5 t6 t7 t8 : Option V) (kn kw : List (Key × V)) (ms : List Nat), σ = [some (.ref a), some (.ref nu), some (.ref nw), some (.ref mk), t4, t5, t6, t7, t8, none] ∧ Same H H1 ∧ H1 nu = some (.dK kn) ∧ H1 nw = some (.dK kw) ∧ H1 mk = some (.lst (ms.map nV)) ∧
    (kn.length ≤ i ∧ kw.length ≤ i) ∧ (∀ j, j < i → valV kn (.inr (nameAt ns j)) = some (nV j)) ∧ (∀ h, ∃ lk, Last ns i h lk ∧ valV kw (.inr h) = lk.map nV) ∧ MaskOk ns ms i) ?_ ?_ ?_ ?_
  · exact ⟨none, none, none, none, none, [], [], [], rfl, s0, by rw [upd_ne n13, upd_ne n12]; exact upd_same, by rw [upd_ne n23]; exact upd_same, upd_same, ⟨Nat.le_refl _, Nat.le_refl _⟩, fun j lt => absurd lt (by omega), fun h => ⟨none, .no fun k lt => absurd lt (by omega), rfl⟩, rfl, fun j lt => absurd lt (by omega)⟩
  · rintro i σ H1 _ ⟨_, _, _, _, _, _, _, _, _, s1, _⟩
    exact hG H1 fun o z => s1 _ _ z
  · rintro i x σ H1 _ hi ⟨t4, t5, t6, t7, t8, kn, kw, ms, rfl, s1, e1, e2, e3, ⟨l1, l2⟩, hn, hl, hm⟩ ⟨T, y1, y2, rfl, hT, rfl, yi, yx⟩
    obtain rfl : V.int (i : Nat) = y1 := Option.some.inj yi
    obtain ⟨p, w0, rfl, hp, hw⟩ := (hN.same s1).2 i y2 yx
    have sT : Same H1 (upd H1 T (.tup [V.int (i : Nat), .ref p])) := smNew hT
    have hi2 : i < ns.length := by
      rw [← hN.1]
      exact hi
    have i40 : i < 40 := Nat.lt_of_lt_of_le hi2 n40
    obtain ⟨lkv, hL, hlk⟩ := hl (handAt ns i)
    have dn := dir_num ok hi2 hL
    have lw := ok.wlen hi2
    refine ⟨T, _, rfl, SqT.of upd_same, rfl, _, _, rfl, _, _, rfl, ?_⟩
    dsimp only [gName]
    refine ⟨p, _, rfl, sameT sT hp, rfl, _, _, rfl, _, _, rfl, _, _, rfl, rfl, rfl, ?_⟩
    dsimp only [gName]
    refine ⟨_, rfl, w0, rfl, ⟨_, sameT sT hw⟩, fun wl hwl => ?_⟩
    refine lcF (walk_tup (K := K) (a := w0) (xs := (waitAt ns i).map V.str)) (fun _ => true) (fun q => nV (numOf ns ((waitAt ns i).getD q Str.empty))) hwl (by rw [List.length_map]; omega) (fun H6 z => sameT (sT.trans z) hw) ?_ ?_
    · rintro j x H6 _ KT KF hj s7 ⟨rfl, hx⟩ kt kf
      obtain ⟨z, hz, rfl⟩ := strGet hx
      obtain ⟨k, lk1, rfl⟩ := ok.wt i hi2 z (List.mem_of_getElem? hz)
      have ez : (waitAt ns i).getD j Str.empty = nameAt ns k := by rw [List.getD_eq_getElem?_getD, hz]; rfl
      exact ⟨rfl, yesT (iteT ⟨_, rfl, _, rfl, nu, _, rfl, (by rw [← hn k lk1]; exact DGet.k (k := Sum.inr (nameAt ns k)) (s7 _ _ (sT _ _ e1))), kt _ _ rfl (Same.refl _) (by rw [ez, numOf_name ok (Nat.lt_trans lk1 hi2)])⟩)⟩
    · intro H6 s7 e7
      rw [List.length_map, idx_list (fun x => nV (numOf ns x)) Str.empty (waitAt ns i)] at e7
      have s17 := sT.trans s7
      have f1 := s17 _ _ e1
      have f2 := s17 _ _ e2
      have f3 := s17 _ _ e3
      have wlm : wl ≠ mk := fun z => by
        rw [z] at hwl
        rw [sT _ _ e3] at hwl
        cases hwl
      have e7' : H6 wl = some (.lst (((waitAt ns i).map (numOf ns)).map nV)) := by
        rw [e7, List.map_map]
        rfl
      dsimp only [gName]
      refine (seqIfS (fun H8 => ∃ js : List Nat, H8 wl = some (.lst (js.map nV)) ∧ (∀ j, j ∈ js ↔ Dir ns j i) ∧ js.length ≤ 41 ∧ (∀ u o, u ≠ wl → H6 u = some o → H8 u = some o)) ?_ ?_)
      · rintro H8 ⟨js, g1, g2, g3, g4⟩
        have nuw : nu ≠ wl := ne_of_none (sT _ _ e1) hwl
        have nww : nw ≠ wl := ne_of_none (sT _ _ e2) hwl
        have a1 := g4 _ _ nuw f1
        have a2 := g4 _ _ nww f2
        have a3 := g4 _ _ wlm.symm f3
        refine ⟨_, rfl, .inl ⟨rfl, _, SqL.of a3⟩, _, rfl, _, _, rfl, rfl, ⟨by omega, by omega, by decide⟩, _, rfl, _, rfl, mk, wl, ms, js, rfl, .inl (SqL.of a3), SqL.of g1, fun j hj => by rw [hm.1]; exact ((g2 j).mp hj).1, _, _, rfl, rfl, ?_⟩
        have ev : Builtin.bitOr (1 * 2 ^ ((i : Nat) : Int).toNat) ((joinM ms js : Nat) : Int) = ((2 ^ i ||| joinM ms js : Nat) : Int) := by
          have z : (1 : Int) * 2 ^ ((i : Nat) : Int).toNat = ((2 ^ i : Nat) : Int) := by
            rw [Int.one_mul, Int.toNat_natCast, Int.natCast_pow]
            rfl
          rw [z, orNat]
        have lms := hm.1
        refine ⟨mk, _, nV (2 ^ i ||| joinM ms js), rfl, congrArg (fun z => [V.int z]) ev, a3, small1000 (by rw [List.length_map]; omega), ?_⟩
        have b1 : upd H8 mk (.lst (ms.map nV ++ [nV (2 ^ i ||| joinM ms js)])) nu = some (.dK kn) := by
          rw [upd_ne n13]
          exact a1
        have b2 : upd H8 mk (.lst (ms.map nV ++ [nV (2 ^ i ||| joinM ms js)])) nw = some (.dK kw) := by
          rw [upd_ne n23]
          exact a2
        refine ⟨_, rfl, _, rfl, _, rfl, nu, _, rfl, DPut.k (kvs := kn) (k := Sum.inr (nameAt ns i)) b1 (small1000 (by omega)), ?_⟩
        refine ⟨_, rfl, _, rfl, _, rfl, nw, _, rfl, DPut.k (kvs := kw) (k := Sum.inr (handAt ns i)) (by rw [upd_ne n12.symm]; exact b2) (small1000 (by omega)), ?_⟩
        refine ⟨_, _, _, _, _, putK kn (.inr (nameAt ns i)) (nV i), putK kw (.inr (handAt ns i)) (nV i), ms ++ [2 ^ i ||| joinM ms js], rfl, ?_, ?_, upd_same, ?_, ⟨Nat.le_trans (length_putK _ _ _) (Nat.succ_le_succ l1), Nat.le_trans (length_putK _ _ _) (Nat.succ_le_succ l2)⟩, ?_, ?_, mask_next hm g2⟩
        · intro u v e
          have n1 : u ≠ nu := fun z => by
            rw [z, hnu] at e
            cases e
          have n2 : u ≠ nw := fun z => by
            rw [z, nwH] at e
            cases e
          have n3 : u ≠ mk := fun z => by
            rw [z, mkH] at e
            cases e
          have e3' := sT _ _ (s1 _ _ e)
          have n4 : u ≠ wl := fun z => by
            rw [z, hwl] at e3'
            cases e3'
          rw [upd_ne n2, upd_ne n1, upd_ne n3]
          exact g4 _ _ n4 (s7 _ _ e3')
        · rw [upd_ne n12]
          exact upd_same
        · rw [upd_ne n23.symm, upd_ne n13.symm, upd_same, List.map_append]
          rfl
        · intro j hj
          rw [valV_put]
          by_cases ji : j = i
          · rw [ji, if_pos rfl]
          · rw [if_neg (fun z => ji (ok.inj (by omega) hi2 (Sum.inr.inj z)))]
            exact hn j (by omega)
        · intro h
          obtain ⟨lk0, q1, q2⟩ := hl h
          refine ⟨_, q1.next, ?_⟩
          rw [valV_put]
          by_cases hc0 : handAt ns i = h
          · rw [if_pos hc0, if_pos (by rw [hc0])]
            rfl
          · rw [if_neg hc0, if_neg (fun z => hc0 (Sum.inr.inj z).symm)]
            exact q2
      · intro rest
        refine ⟨_, rfl, _, rfl, nw, _, rfl, DGet.k (k := Sum.inr (handAt ns i)) f2, _, rfl, ?_⟩
        rw [hlk]
        cases lkv with
        | none => exact iteF (rest H6 ⟨_, e7', fun j => by rw [← dn j]; simp, by rw [List.length_map]; omega, fun u o _ z => z⟩)
        | some k =>
          refine iteT ⟨_, rfl, .inl ⟨rfl, _, SqL.of e7'⟩, _, rfl, _, rfl, nw, nV k, rfl, (by have z := DGet.k (k := Sum.inr (handAt ns i)) f2; rw [hlk] at z; exact z), _, _, _, rfl, rfl, e7', ?_, ?_⟩
          · rw [List.length_map, List.length_map]
            exact small1000 (by omega)
          · refine rest _ ⟨(waitAt ns i).map (numOf ns) ++ [k], by rw [upd_same, List.map_append]; rfl, fun j => by rw [← dn j]; rfl, by rw [List.length_append, List.length_map]; exact Nat.succ_le_succ (by omega), fun u o n z => by rw [upd_ne n]; exact z⟩
  · rintro σ H1 ⟨t4, t5, t6, t7, t8, kn, kw, ms, rfl, s1, e1, e2, e3, _, hn, hl, hm⟩
    rw [hN.1] at hm
    refine ⟨_, rfl, mk, _, rfl, .inl ⟨SqL.of e3, fun p hp => q p ms _ (s1.trans (smNew hp)) (s1.free hp) upd_same hm⟩⟩
end
end L2.K2


namespace L2.Bv
open PySem L2 L2.Ts
/-! ### rules within a comprehension: the written part by its own name -/
section
variable {X : Cx} {K : PySem.W.Frag} {e tg : Expr} {te : TE} {ta : TA} {p pos tpos : Pos} {elts : List Expr} {kk : Nat}
theorem pi_tupK (hK : X.K = K) (h : PE X e te) : PI X tg e (iTup K te) := hK ▸ pi_tup h
theorem pi_listK (hK : X.K = K) (h : PE X e te) : PI X tg e (iList K te) := hK ▸ pi_list h
theorem pi_enumTK (hK : X.K = K) (hg : Gl X "enumerate") (hm : X.mg "enumerate" = none) (ha : PA X [e] ta) (hs : starEach [e] X.env = [(false, eval e X.env)] := by rfl) : PI X (.Tuple elts kk tpos) (.Call (.Name "enumerate" p) [e] [] pos) (iEnumT K ta) := hK ▸ pi_enumT hg hm ha hs
theorem pi_enumLK (hK : X.K = K) (hg : Gl X "enumerate") (hm : X.mg "enumerate" = none) (ha : PA X [e] ta) (hs : starEach [e] X.env = [(false, eval e X.env)] := by rfl) : PI X (.Tuple elts kk tpos) (.Call (.Name "enumerate" p) [e] [] pos) (iEnum K ta) := hK ▸ pi_enum hg hm ha hs
theorem pg_tupK {es : List Expr} {k : Nat} {t : TGs} {n : Nat} (hK : X.K = K) (hc : X.calm = true) (h : PGs X es t) (hn : (assignEach es X.env).length = n) (hst : (assignEach es X.env).findIdx? (·.1) = none := by rfl) : PG X (.Tuple es k pos) (gTup K n t) := hK ▸ pg_tup hc h hn hst
def rTupOf (K : PySem.W.Frag) : List V → Hp → VK → Prop := fun xs H Q => ∃ p ys, xs = [V.ref p] ∧ ((SqL K H p ys ∧ ∀ l, H l = none → Q (.ref l) (upd H l (.tup ys))) ∨ (SqT K H p ys ∧ Q (.ref p) H))
theorem tupOfK (hK : X.K = K) : CallR X (.type "tuple") (rTupOf K) := hK ▸ call_tuple_of
theorem inSeqK (hK : X.K = K) : OpR X (compareOp .In) (rIn K false) := hK ▸ op_in_seq
theorem notInSeqK (hK : X.K = K) : OpR X (compareOp .NotIn) (rIn K true) := hK ▸ op_notIn_seq
/-- by truth -/
def tTru (K : PySem.W.Frag) (te : TE) : TT := fun σ H Q => te σ H fun x H' => ∃ k, TruV K x H' k ∧ Q k H'
theorem ptTruthK (hK : X.K = K) (ha : PE X e te) (he : ∀ whole, isTrue e X.env whole = (do let v ← whole; standAt e.pos; holding [v] (truthy v))) : PT X e (tTru K te) := hK ▸ pt_truth ha he
theorem ixTupK (hK : X.K = K) : IxR X (rIxT K) := hK ▸ ix_tup
theorem ixListK (hK : X.K = K) : IxR X (rIxL K) := hK ▸ ix_list
def rLenS (K : PySem.W.Frag) : List V → Hp → VK → Prop := fun xs H Q => ∃ p ys, xs = [V.ref p] ∧ (SqL K H p ys ∨ SqT K H p ys) ∧ Q (.int ys.length) H
theorem lenSeqK (hK : X.K = K) : CallR X (.builtin "len") (rLenS K) := hK ▸ call_len_seq
def lcSc : Expr → Scope
  | .ListComp _ _ sc _ => sc
  | _ => { kind := .function, names := [], isGenerator := false, isCoroutine := false, more := [] }
/-- a comprehension's scope within another scope -/
def relSc (o sc : Scope) : Scope := { sc with names := sc.names.map fun (n, k) => if (k == NameKind.free && o.kind == .function && o.names.lookup n == some .cell) then (n, NameKind.cell) else (n, k) }
def lcElt : Expr → Expr
  | .ListComp e _ _ _ => e
  | e => e
def arg0 : Expr → Expr
  | .Call _ (e :: _) _ _ => e
  | e => e
/-- the value that the i-th statement of a def stores -/
def asgOf (st : Stmt) (i : Nat) : Expr := match (defBody st)[i]? with
  | some (.Assign _ e _) => e
  | _ => .Constant .none 0 ⟨0, 0, 0, 0⟩
def retOf (st : Stmt) : Expr := match (defBody st).getLast? with
  | some (.Return (some e) _) => e
  | _ => .Constant .none 0 ⟨0, 0, 0, 0⟩
end
end L2.Bv


namespace L2.Ts
open PySem PySem.Spec PyProof.Rows L2 HT RZ
/-! ### a tuple's slice that may be the whole of it -/
section
variable {prog : Program} {w : World} {A : Around} {E : Value → Shared → Prop} {s : Shared}
theorem slice_all {t z : Addr} {items : Array Value} {vl vu : Value} {lo hi : Option Int} {Q : Value → Shared → Prop} (ht : IsTup s.heap t items) (hz : s.heap.IsSliceOf z vl vu .none) (pl : IsPart vl lo) (pu : IsPart vu hi)
    (w1 : sIx items.size 0 lo = 0) (w2 : sIx items.size items.size hi = items.size) (h : Q (.ref t) s) : wpAny (model prog w) A (getItem (.ref t) (.ref z)) Q E s := by
  obtain ⟨oz, ez, cz, dz⟩ := id hz
  have tz : s.TypeIs (.ref z) "slice" := ⟨oz, ez, cz⟩
  unfold getItem
  try with_reducible refine wpAny_holding ?_
  first
    | refine wpAny_bind (wpAny_pure ?_)
    | skip
  refine wpAny_bind (wpAny_sequenceKey ht.typeIs (by decide) (wpAny_bind (wpAny_callSpecial?_slot (name := Str.ofString "__getitem__") ht.typeIs PyProof.Rows.slot_tuple_getitem (wpAny_call_entry PyProof.Rows.slot_tuple_getitem ht.typeIs entry_tuple_getitem ?_ (args_tuple_getitem _ _)))))
  show wpAny _ _ (Builtin.Tuple.tupleItemsOf (.ref t) >>= _) _ _ s
  refine wpAny_bind (tupleItemsOf_ ht (wpAny_bind (wpAny_typeOf tz ?_)))
  rw [if_pos (by decide)]
  refine wpAny_bind (sliceApplied_gen hz pl pu ?_)
  have yes : (((sIx items.size 0 lo : Nat) : Int) == 0 && (1 : Int) == 1 && (sIx items.size items.size hi - sIx items.size 0 lo) == items.size) = true := by
    rw [w1, w2]
    simp
  show wpAny _ _ (if (((sIx items.size 0 lo : Nat) : Int) == 0 && (1 : Int) == 1 && (sIx items.size items.size hi - sIx items.size 0 lo) == items.size) = true then _ else _) _ _ s
  rw [if_pos yes]
  unfold Builtin.Tuple.tupleIsExact
  refine wpAny_bind (wpAny_bind (wpAny_typeOf ht.typeIs (wpAny_pure ?_)))
  have ex : (Value.type "tuple" == Value.type "tuple") = true := by decide
  simp only [ex, if_true]
  first
    | exact wpAny_bind (wpAny_rule (wpAny_bind (wpAny_pure ⟨_, rfl, wpAny_pure h⟩)))
    | exact wpAny_bind (wpAny_rule (wpAny_pure ⟨_, rfl, wpAny_pure h⟩))
    | exact wpAny_bind (wpAny_bind (wpAny_rule (wpAny_pure ⟨_, rfl, wpAny_pure h⟩)))
    | exact wpAny_bind (wpAny_bind (wpAny_rule (wpAny_bind (wpAny_pure (wpAny_pure ⟨_, rfl, wpAny_pure h⟩)))))
end
section
variable {X : Cx}
def rSlTA (K : PySem.W.Frag) : V → Option Int → Option Int → Hp → VK → Prop := fun x lo hi H Q => ∃ a xs, x = .ref a ∧ SqT K H a xs ∧ (sIx xs.length 0 lo = 0 → sIx xs.length xs.length hi = xs.length → Q (.ref a) H) ∧
  (¬ (sIx xs.length 0 lo = 0 ∧ sIx xs.length xs.length hi = xs.length) → ∀ p, H p = none → Q (.ref p) (upd H p (.tup (cutV xs lo hi))))
theorem sl_tupA : SlR X (rSlTA X.K) := by
  intro pins s σ H x v vl vu lo hi sl Q I rx hs pl pu h
  obtain ⟨a, xs, rfl, hx, q1, q2⟩ := h
  by_cases c : sIx xs.length 0 lo = 0 ∧ sIx xs.length xs.length hi = xs.length
  · cases rx
    obtain ⟨its, r, ht, hz⟩ := I.tuple hx
    have n : its.toArray.size = xs.length := by rw [List.size_toArray]; exact r.length.symm
    exact ⟨"tuple", _, PyProof.Rows.slot_tuple_getitem.lookup, ht.typeIs, slice_all ht hs pl pu (by rw [n]; exact c.1) (by rw [n]; exact c.2) ⟨.ref a, H, I, rfl, q1 c.1 c.2⟩⟩
  · exact sl_tup pins s σ H (.ref a) v vl vu lo hi sl Q I rx hs pl pu (show rSlT X.K (.ref a) lo hi H Q from ⟨a, xs, rfl, hx, c, q2 c⟩)
end
/-- two tuples side by side -/
theorem walk_zipT {K : PySem.W.Frag} {a b : Addr} {xs ys : List V} {n : Nat} (hn : n = min xs.length ys.length) : Walk (ItzT K a b) n (fun H => SqT K H a xs ∧ SqT K H b ys) (YPair (fun i => xs[i]?) (fun i => ys[i]?)) := by
  subst hn
  refine ⟨fun i _ hi q => ?_, fun _ q => ⟨xs, ys, q.1, q.2, by omega⟩, fun i H v H' _ q y => ?_⟩
  · have h1 : i < xs.length := by omega
    have h2 : i < ys.length := by omega
    exact ⟨xs, ys, xs[i], ys[i], q.1, q.2, List.getElem?_eq_getElem h1, List.getElem?_eq_getElem h2⟩
  · obtain ⟨T, x, z, y1, y2, y3, y4, y5⟩ := y
    exact ⟨T, x, z, y1, y2, y3, y4 xs q.1, y5 ys q.2⟩
end L2.Ts


namespace L2.Bv
open PySem L2 L2.Ts
/-- what a dict holds that was made turn by turn, its keys all unlike -/
def Made (key : Nat → Key) (val : Nat → V) (n : Nat) (kvs : List (Key × V)) : Prop := kvs.length ≤ n ∧ (∀ j, j < n → valV kvs (key j) = some (val j)) ∧ ∀ k, (valV kvs k).isSome = true → ∃ j, j < n ∧ key j = k
theorem Made.nil (key : Nat → Key) (val : Nat → V) : Made key val 0 [] := ⟨Nat.le_refl _, fun j lt => absurd lt (by omega), fun k h => by cases h⟩
theorem Made.put {key : Nat → Key} {val : Nat → V} {n : Nat} {kvs : List (Key × V)} (m : Made key val n kvs) (dis : ∀ j, j < n → key j ≠ key n) : Made key val (n + 1) (putK kvs (key n) (val n)) := by
  refine ⟨Nat.le_trans (length_putK _ _ _) (Nat.succ_le_succ m.1), fun j lt => ?_, fun k h => ?_⟩
  · rw [valV_put]
    by_cases c : j = n
    · rw [c, if_pos rfl]
    · rw [if_neg (dis j (by omega))]
      exact m.2.1 j (by omega)
  · rw [valV_put] at h
    by_cases c : k = key n
    · exact ⟨n, Nat.lt_succ_self n, c.symm⟩
    · rw [if_neg c] at h
      obtain ⟨j, lt, e⟩ := m.2.2 k h
      exact ⟨j, Nat.lt_succ_of_lt lt, e⟩
theorem dcF {J : It} {n : Nat} {G : Hp → Prop} {Y : Nat → Hp → V → Hp → Prop} (w : Walk J n G Y) {g : TG} {tt : TT} {tk tv : TE} {vs : List Nat} {σ : St} {H1 : Hp} {D : Addr} {Qd : Hp → Prop} (key : Nat → Key) (val : Nat → V)
    (dis : ∀ i j, i < n → j < n → key i = key j → i = j) (hD : H1 D = none) (hn : n ≤ 1000) (hG : ∀ H, Same H1 H → G H)
    (hs : ∀ (i : Nat) (x : V) (H H' : Hp) (KT : V → V → Hp → Prop) (KF : Hp → Prop), i < n → Same H1 H → Y i H x H' → (∀ y z H4, Same H H4 → y = kV (key i) → z = val i → KT y z H4) →
      g x (wipe σ vs) H' fun σ2 H2 => wipe σ2 vs = wipe σ vs ∧ tt σ2 H2 fun b H3 => if b = true then tk σ2 H3 fun y H4 => tv σ2 H4 fun z H5 => KT y z H5 else KF H3)
    (hd : ∀ H kvs, Same H1 H → H D = some (.dK kvs) → Made key val n kvs → Qd H) :
    ∃ W : Nat → Nat → Hp → Prop, (∃ m, W 0 m (upd H1 D (.dK []))) ∧ ∀ i m H, W i m H → (J.stop i H ∧ Qd H) ∨ (J.go i H ∧ ∃ Nx : Hp → Prop, (∀ H', Nx H' → ∃ m', m' < m ∧ W (i + 1) m' H') ∧ ∀ x H', J.yld i H x H' → g x (wipe σ vs) H' fun σ2 H2 => wipe σ2 vs = wipe σ vs ∧ tt σ2 H2 fun b H3 =>
      if b = true then tk σ2 H3 fun y H4 => tv σ2 H4 fun z H5 => ∃ kvs k, y = kV k ∧ H5 D = some (.dK kvs) ∧ kvs.length < sizeLine ∧ Nx (upd H5 D (.dK (putK kvs k z))) else Nx H3) := by
  refine ⟨fun i m H => m = n - i ∧ i ≤ n ∧ Same H1 H ∧ ∃ kvs, H D = some (.dK kvs) ∧ Made key val i kvs, ⟨n, rfl, Nat.zero_le _, (KS.new (S := noS) hD).same, [], upd_same, Made.nil _ _⟩, ?_⟩
  rintro i m H ⟨rfl, hi, s, kvs, e, md⟩
  have q := hG H s
  by_cases lt : i < n
  · refine .inr ⟨w.goes i H lt q, fun H' => Same H1 H' ∧ ∃ kvs, H' D = some (.dK kvs) ∧ Made key val (i + 1) kvs, fun H' p => ⟨n - (i + 1), by omega, rfl, lt, p⟩, fun x H' y => ?_⟩
    refine hs i x H H' _ _ lt s (w.yields i H x H' lt q y) fun y z H4 s4 ey ez => ?_
    subst ey ez
    refine ⟨kvs, key i, rfl, s4 _ _ e, small1000 (by have := md.1; omega), fun u o h => ?_, _, upd_same, md.put fun j lj c => absurd (dis j i (by omega) lt c) (by omega)⟩
    rw [upd_ne (ne_of_none h hD)]
    exact s4 _ _ (s _ _ h)
  · obtain rfl : i = n := by omega
    exact .inl ⟨w.stops H q, hd H kvs s e md⟩
end L2.Bv


namespace L2.Bv
open PySem PySem.Spec PyProof.Rows
/-! ### tuples that are known to hold no attributes: their methods may be called -/
def FzT (H : Hp) (p : Addr) (xs : List V) : Prop := ∃ o : Obj, o.dict = none ∧ o.cls = .type "tuple" ∧ H p = some (.frz o (.tup xs))
theorem FzT.sq {K : PySem.W.Frag} {H : Hp} {p : Addr} {xs : List V} (h : FzT H p xs) : SqT K H p xs := let ⟨o, _, _, e⟩ := h; .inl (.inr ⟨o, e⟩)
theorem FzT.same {H H' : Hp} {p : Addr} {xs : List V} (h : FzT H p xs) (s : Same H H') : FzT H' p xs := let ⟨o, a, b, e⟩ := h; ⟨o, a, b, s _ _ e⟩
/-- tuple(a list), its object known -/
def rTupF (K : PySem.W.Frag) : List V → Hp → VK → Prop := fun xs H Q => ∃ p ys, xs = [V.ref p] ∧ SqL K H p ys ∧ ∀ (l : Addr) (o : Obj), o.dict = none → o.cls = .type "tuple" → H l = none → Q (.ref l) (upd H l (.frz o (.tup ys)))
section
variable {X : Cx} {K : PySem.W.Frag}
theorem tupOfF0 : CallR X (.type "tuple") (rTupF X.K) := by
  intro pins s σ H xs us Q I r h
  obtain ⟨p, ys, rfl, hq, q⟩ := h
  obtain ⟨u, rfl, rx⟩ := vals1 r
  cases rx
  obtain ⟨its, r', pl, hz⟩ := I.list hq
  have hlen := r'.length
  refine call_tuple_list pl.isList (fun h' kp => ?_) (by simp only [List.size_toArray] <;> omega)
  have I1 : Inv X pins σ H { s with heap := h' } := I.kept (t' := s.toks) kp
  have I2 : Inv X pins σ (upd H h'.objs.size (.frz { cls := .type "tuple", data := .seq its.toArray } (.tup ys))) { s with heap := h'.push { cls := .type "tuple", data := .seq its.toArray } } :=
    I1.laid (t' := s.toks) (fun b o e => Heap.get?_push_of_some _ e) (Nat.le_refl _) (show ObjOk X.prog X.w _ _ _ (.frz _ (.tup ys)) from ⟨Heap.get?_push_size _ rfl, hz, its, r', IsTup.new _ _⟩)
  exact ⟨.ref h'.objs.size, _, I2, rfl, q _ _ rfl rfl (I1.hok.fresh (Nat.le_refl _))⟩
theorem tupOfF (hK : X.K = K) : CallR X (.type "tuple") (rTupF K) := hK ▸ tupOfF0
variable {o e : Expr} {es : List Expr} {to : TE} {t : TA} {name : Str} {apos cpos : Pos} {id : String} {r : V → List V → Hp → VK → Prop}
def tBMF (r : V → List V → Hp → VK → Prop) (to : TE) (t : TA) : TE := fun σ H Q => to σ H fun x H1 => (∃ p xs, x = .ref p ∧ FzT H1 p xs) ∧ t σ H1 fun xs H2 => r x xs H2 Q
/-- a tuple's method -/
theorem pe_bmF (pa : PlainAttrs "tuple") (slot : Slot "tuple" name id) (hty : typeOf (.builtin id) = pure (.type "method_descriptor")) (hm : MtR X id r) (ho : PE X o to) (ha : PA X (e :: es) t)
    (hbase : attributeBase o name X.env (eval o X.env) = eval o X.env := by rfl)
    (hfew : ((backTo cpos (starEach (e :: es) X.env)).all (fun x => !x.1) && (backToKw cpos (keywordEach [] X.env)).all (fun x => x.1.isSome)
      && decide ((e :: es).length + ([] : List Keyword).length + (if ([] : List Keyword).isEmpty then 0 else 1) < 30)) = true := by rfl)
    (hline : (apos.endLine == cpos.line) = true := by rfl) (hs : starEach (e :: es) X.env = (false, eval e X.env) :: starEach es X.env := by rfl) (hplain : (backTo cpos (starEach es X.env)).any (·.1) = false := by rfl) :
    PE X (.Call (.Attribute o name apos) (e :: es) [] cpos) (tBMF r to t) := by
  refine ⟨fun pins s σ H Q I h => ?_⟩
  refine wpAny_Call_method_late hbase hfew hline rfl (thn (ho.run pins s σ H _ I h) fun v s1 ⟨x, H1, I1, r1, ty, q1⟩ => ?_)
  obtain ⟨p, ws, rfl, ob, dn, cl, eh⟩ := ty
  cases r1
  obtain ⟨e1, _⟩ := (show ObjOk X.prog X.w H1 s1.heap p (.frz ob (.tup ws)) from I1.hok p _ eh)
  refine ⟨"tuple", id, pa, slot, hty, ⟨ob, e1, cl⟩, fun a e2 => ?_, ?_⟩
  · cases e2
    exact ⟨ob, e1, dn⟩
  have hA := ha.run cpos pins s1 σ H1 _ I1 q1
  rw [hs] at hA ⊢
  refine Calls.callWith_builtin (by show (false || (backTo cpos (starEach es X.env)).any (·.1)) = false; rw [hplain] <;> rfl) (Calls.evalArgs_plain ?_)
  exact thn hA fun us s2 ⟨vs, H2, I2, r2, q2⟩ => hm pins s2 σ H2 (.ref p) vs (.ref p) us Q I2 (show RelV (.ref p) (.ref p) from rfl) r2 q2
end
end L2.Bv


namespace L2.K2
open PySem L2 L2.Bv L2.Pc L2.Ts
abbrev sRows : Stmt := top 23
abbrev nRows : List Str := ["hands", "notes", "hand", "at", "note"]
theorem scR : FnScope nRows ["hands", "notes"] (defScope sRows) := ⟨rfl, rfl, rfl, by decide +kernel, rfl, by decide +kernel, by decide +kernel⟩
/-- the rows of some hands -/
def rowsOf (ns : List Nt) (hs : List Str) : List (List Nat) := hs.map fun h => idx (own ns h) ns.length
/-- a tuple of tuples of numbers -/
def TabAt (K : PySem.W.Frag) (H : Hp) (vs : List V) (rows : List (List Nat)) : Prop := vs.length = rows.length ∧ ∀ (i : Nat) (v : V), vs[i]? = some v → ∃ p : Addr, v = .ref p ∧ SqT K H p ((rows.getD i []).map nV)
/-- made since H0 -/
def TabNew (H0 H1 : Hp) (vs : List V) (rows : List (List Nat)) : Prop := vs.length = rows.length ∧ ∀ (i : Nat) (v : V), vs[i]? = some v → ∃ p : Addr, v = .ref p ∧ H0 p = none ∧ FzT H1 p ((rows.getD i []).map nV)
theorem TabNew.same {H0 H1 H2 : Hp} {vs : List V} {rows : List (List Nat)} (h : TabNew H0 H1 vs rows) (s : Same H1 H2) : TabNew H0 H2 vs rows := ⟨h.1, fun i v hv => let ⟨p, a, b, c⟩ := h.2 i v hv; ⟨p, a, b, c.same s⟩⟩
theorem TabNew.new {K : PySem.W.Frag} {H0 H1 : Hp} {vs : List V} {rows : List (List Nat)} (h : TabNew H0 H1 vs rows) : New H0 H1 (fun H' => TabAt K H' vs rows) := fun S al H' k => ⟨h.1, fun i v hv => let ⟨p, a, b, c⟩ := h.2 i v hv; ⟨p, a, let ⟨o, _, _, e⟩ := c; .inl (.inr ⟨o, k _ _ (al.off b) e⟩)⟩⟩
def spRows (K : PySem.W.Frag) : Sp := fun vs H Q _ => ∃ (a b : Addr) (hs : List Str) (xs : List V) (ns : List Nt), vs = [.ref a, .ref b] ∧ SqT K H a (hs.map V.str) ∧ SqT K H b xs ∧ NotesAt K H xs ns ∧ ns.length ≤ 40 ∧ hs.length ≤ 6 ∧
  ∀ (p : Addr) (vs : List V) (H' : Hp), Same H H' → H p = none → H' p = some (.tup vs) → TabNew H H' vs (rowsOf ns hs) → Q (.ref p) H'
section
variable {P : Program} {w : World} {K : PySem.W.Frag} {mg : Str → Option Value} {base : Heap}
theorem ok_rows {f : Addr} {fd : FuncData} (F : Fun K "rows_by_hand" "rows_by_hand" sRows f fd) (me : mg "enumerate" = none) (mt : mg "tuple" = none) : FnOk P w K mg base CX0 1 f fd ["hands", "notes"] (spRows K) := by
  refine F.ok scR (fun vs H Q E h => ?_) (fun cdv A outer s H vs Q E hr h => ?_)
  · obtain ⟨a, b, hs, xs, ns, rfl, _⟩ := h
    rfl
  obtain ⟨a, b, hs, xs, ns, rfl, hA, hB, hN, n40, h6, q⟩ := h
  refine ⟨_, pss_one (ps_ret (pe_callTy call_tuple_of (by rfl) mt (by decide +kernel) (pa_cons (pe_lc (own := [("hand", 2)]) (g := gName 2) (tt := tYes) rfl scR.nd (pi_tup (pv 0)) (blkOk_by (N := nRows) (sc := defScope sRows) (by decide +kernel))
      (fun _ _ _ _ _ => pg_name (i := 2) scR.nd rfl (Or.inr rfl)) (fun _ _ _ _ _ => pts_nil)
      (fun _ _ _ _ _ => pe_callTy (tupOfF (K := K) rfl) (by rfl) mt (by decide +kernel) (pa_cons (pe_lc (own := [("at", 3), ("note", 4)]) (g := gTup K 2 (gCons (gName 3) (gCons (gName 4) gNil))) (tt := _) rfl scR.nd (pi_enumTK (K := K) rfl (by rfl) me (pa_cons (pv 1) pa_nil)) (blkOk_by (N := nRows) (sc := relSc (defScope sRows) (lcSc (arg0 (retOf sRows)))) (by decide +kernel))
        (fun _ _ _ _ _ => pg_tupK rfl rfl (pgs_cons (pg_name (i := 3) scR.nd rfl (Or.inl rfl)) (pgs_cons (pg_name (i := 4) scR.nd rfl (Or.inl rfl)) pgs_nil)) rfl)
        (fun _ _ _ _ _ => pts_one (pt_cmpR op_eq (pe_ix (ixTupK (K := K) rfl) (pv 4) pe_int (fun _ _ => rfl)) (pv 2) (nomark _)))
        (fun _ _ _ _ _ => pv 3)) pa_nil))) pa_nil))), ?_⟩
  have lh : (hs.map V.str).length ≤ 1000 := by
    rw [List.length_map]
    omega
  refine ⟨_, rfl, a, rfl, ⟨_, hA⟩, fun D hD => ?_⟩
  refine lcG (walk_tup (K := K) (a := a) (xs := hs.map V.str)) noS (fun _ => True) (fun _ => true) (fun i v H' => ∃ p : Addr, v = .ref p ∧ H p = none ∧ FzT H' p ((idx (own ns (hs.getD i Str.empty)) ns.length).map nV)) hD Al.empty (fun _ _ _ _ => trivial) trivial lh (fun H1 k => sameT k.same hA) ?_ ?_
  · rintro i x H1 _ KT KF hi k1 _ ⟨acc, eD⟩ ⟨rfl, hx⟩ kt kf
    obtain ⟨z, hz, rfl⟩ := strGet hx
    have ez : hs.getD i Str.empty = z := by rw [List.getD_eq_getElem?_getD, hz]; rfl
    refine ⟨rfl, yesT (iteT ⟨_, rfl, b, xs, rfl, sameT k1.same hB, fun D2 hD2 => ?_⟩)⟩
    refine lcF (walk_enumT (K := K) (a := b) (xs := xs)) (own ns z) (fun q => nV q) hD2 (by rw [hN.1]; omega) (fun H6 s => sameT (k1.same.trans s) hB) ?_ ?_
    · rintro j x H6 _ KT2 KF2 hj s7 ⟨T, y1, y2, rfl, hT, rfl, yi, yx⟩ kt2 kf2
      obtain rfl : V.int (j : Nat) = y1 := Option.some.inj yi
      obtain ⟨p, w0, rfl, hp, hw⟩ := (hN.same (k1.same.trans s7)).2 j y2 yx
      have sT : Same H6 (upd H6 T (.tup [V.int (j : Nat), .ref p])) := smNew hT
      refine ⟨T, _, rfl, SqT.of upd_same, rfl, _, _, rfl, _, _, rfl, rfl, rfl, _, rfl, _, _, _, _, rfl, rfl, sameT sT hp, rfl, _, rfl, rfl, _, rfl, ?_⟩
      refine ite2 (fun c1 => ⟨_, rfl, kt2 _ _ ?_ sT rfl⟩) (fun c1 => kf2 _ ?_ sT)
      · exact own_t.mpr (V.str.inj (of_decide_eq_true c1))
      · cases h0 : own ns z j with
        | false => rfl
        | true => exact absurd (decide_eq_true (congrArg V.str (own_t.mp h0))) c1
    · intro H6 s7 e7
      refine ⟨_, _, rfl, SqL.of e7, fun l ob dn cl hl => kt _ _ rfl (KS.of (s7.trans (smNew hl))) trivial ?_⟩
      have ld : ¬ ins noS D l := fun h => by
        rcases h with h | h
        · exact h
        · rw [h, s7 _ _ eD] at hl
          cases hl
      rw [hN.1, ez]
      exact (St'.cell upd_same ld).mono fun H' h => ⟨l, rfl, (k1.same.trans s7).free hl, ob, dn, cl, h⟩
  · intro H1 acc k1 _ eD hb
    refine ⟨_, _, rfl, .inl ⟨SqL.of eD, fun p hp => q p acc _ (k1.same.trans (smNew hp)) (k1.same.free hp) upd_same ?_⟩⟩
    rw [idx_all, List.length_map] at hb
    refine TabNew.same ⟨?_, fun j v hv => ?_⟩ (smNew hp)
    · have z := hb.1
      rw [List.length_range] at z
      rw [z]
      exact (List.length_map (as := hs) _).symm
    · obtain ⟨k, hk, hr2⟩ := hb.2 j v hv
      obtain ⟨p2, e1, e2, e3⟩ := hr2.now
      have lt : j < hs.length := by
        have z := (List.getElem?_eq_some_iff.mp hk).1
        rw [List.length_range] at z
        exact z
      rw [List.getElem?_range lt] at hk
      obtain rfl := Option.some.inj hk
      refine ⟨p2, e1, e2, ?_⟩
      have er : (rowsOf ns hs).getD j [] = idx (own ns (hs.getD j Str.empty)) ns.length := by
        unfold rowsOf
        rw [List.getD_eq_getElem?_getD, List.getD_eq_getElem?_getD, List.getElem?_map, List.getElem?_eq_getElem lt]
        rfl
      rw [er]
      exact e3
end
end L2.K2


namespace L2.K2
open PySem L2 L2.Bv L2.Pc L2.Ts
abbrev sFirst : Stmt := top 25
theorem scFi : FnScope ["row", "masks", "number", "level", "at"] ["row", "masks", "number"] (defScope sFirst) := ⟨rfl, rfl, rfl, by decide +kernel, rfl, by decide +kernel, by decide +kernel⟩
theorem bitNat (m j : Nat) : Builtin.bitAnd (((m : Nat) : Int) / 2 ^ ((j : Nat) : Int).toNat) 1 = if m.testBit j = true then 1 else 0 := by
  have e : ((m : Nat) : Int) / 2 ^ ((j : Nat) : Int).toNat = ((m / 2 ^ j : Nat) : Int) := by
    rw [Int.toNat_natCast, Int.natCast_ediv, Int.natCast_pow]
    rfl
  have z := PyProof.Rows.bitAnd_pp (x := ((m / 2 ^ j : Nat) : Int)) (y := 1) (Int.natCast_nonneg _) (by decide)
  rw [e, z, Int.toNat_natCast]
  have t : m.testBit j = decide (m / 2 ^ j % 2 = 1) := by
    rw [Nat.testBit_eq_decide_div_mod_eq]
  rw [t]
  have a : m / 2 ^ j &&& (1 : Int).toNat = m / 2 ^ j % 2 := Nat.and_one_is_mod _
  rw [a]
  by_cases c : m / 2 ^ j % 2 = 1
  · rw [decide_eq_true c, if_pos rfl, c]
    rfl
  · rw [decide_eq_false c, if_neg Bool.false_ne_true]
    have z : m / 2 ^ j % 2 = 0 := by omega
    rw [z]
    rfl
/-- the first place of a row that lies above a number -/
def firstAbove (row : List Nat) (ms : List Nat) (j : Nat) : Nat := row.findIdx fun k => (ms.getD k 0).testBit j
def spFirst (K : PySem.W.Frag) : Sp := fun vs H Q _ => ∃ (a b : Addr) (row ms : List Nat) (j : Nat), vs = [.ref a, .ref b, nV j] ∧ SqT K H a (row.map nV) ∧ SqT K H b (ms.map nV) ∧ (∀ k ∈ row, k < ms.length) ∧ row.length ≤ 1000 ∧
  ∀ H', Same H H' → Q (nV (firstAbove row ms j)) H'
theorem findIdx_take {α : Type} (p : α → Bool) : ∀ (l : List α) (i : Nat) (x : α), l[i]? = some x → (∀ k y, k < i → l[k]? = some y → p y = false) → p x = true → l.findIdx p = i
  | [], _, _, h, _, _ => by cases h
  | a :: r, 0, x, h, _, hp => by
    obtain rfl : a = x := Option.some.inj h
    rw [List.findIdx_cons, hp]
    rfl
  | a :: r, i + 1, x, h, hn, hp => by
    have z := hn 0 a (Nat.zero_lt_succ i) rfl
    rw [List.findIdx_cons, z, findIdx_take p r i x h (fun k y lt hk => hn (k + 1) y (Nat.succ_lt_succ lt) hk) hp]
    rfl
theorem findIdx_none {α : Type} (p : α → Bool) (l : List α) (h : ∀ k y, k < l.length → l[k]? = some y → p y = false) : l.findIdx p = l.length := by
  refine List.findIdx_eq_length.mpr fun y hy => ?_
  obtain ⟨k, hk, e⟩ := List.getElem_of_mem hy
  exact h k y hk (by rw [← e] <;> exact List.getElem?_eq_getElem hk)
section
variable {P : Program} {w : World} {K : PySem.W.Frag} {mg : Str → Option Value} {base : Heap}
theorem ok_first {f : Addr} {fd : FuncData} (F : Fun K "first_above" "first_above" sFirst f fd) (me : mg "enumerate" = none) (mn : mg "len" = none) : FnOk P w K mg base CX0 1 f fd ["row", "masks", "number"] (spFirst K) := by
  refine F.ok scFi (fun vs H Q E h => ?_) (fun cdv A outer s H vs Q E hr h => ?_)
  · obtain ⟨a, b, row, ms, j, rfl, _⟩ := h
    rfl
  obtain ⟨a, b, row, ms, j, rfl, hA, hB, lt, l1000, q⟩ := h
  refine ⟨_, pss_cons (ps_for PassesOwn.never rfl (pi_enumT (by rfl) me (pa_cons (pv 0) pa_nil)) (pg_tup rfl (pgs_cons (pg_name (i := 3) scFi.nd rfl (Or.inl rfl)) (pgs_cons (pg_name (i := 4) scFi.nd rfl (Or.inl rfl)) pgs_nil)))
      (pss_one (ps_if (pt_truth (pe_op op_and (pe_op op_shr (pe_ix ix_tup (pv 1) (pv 4) (fun _ _ => rfl)) (pv 2)) pe_int) (by intro _; rfl)) (pss_one (ps_ret (pv 3))) pss_nil)))
    (pss_one (ps_ret (pe_callB call_len_seq (by rfl) mn PySem.boot_len (pa_cons (pv 0) pa_nil)))), ?_⟩
  have lr : (row.map nV).length = row.length := List.length_map _
  refine ⟨_, rfl, a, _, rfl, hA, ?_⟩
  refine for_it (walk_enumT (K := K) (a := a) (xs := row.map nV)) (fun i σ H1 => ∃ t3 t4 : Option V, σ = [some (.ref a), some (.ref b), some (nV j), t3, t4] ∧ Same H H1 ∧ ∀ k y, k < i → row[k]? = some y → (ms.getD y 0).testBit j = false) ?_ ?_ ?_ ?_
  · exact ⟨none, none, rfl, Same.refl _, fun k y lt0 => absurd lt0 (by omega)⟩
  · rintro i σ H1 _ ⟨_, _, _, s1, _⟩
    exact sameT s1 hA
  · rintro i x σ H1 _ hi ⟨t3, t4, rfl, s1, no⟩ ⟨T, y1, y2, rfl, hT, rfl, yi, yx⟩
    obtain rfl : V.int (i : Nat) = y1 := Option.some.inj yi
    obtain ⟨r, hr0, rfl⟩ := natGet yx
    have sT : Same H1 (upd H1 T (.tup [V.int (i : Nat), nV r])) := smNew hT
    have lr2 := lt r (List.mem_of_getElem? hr0)
    have ea : atI (ms.map nV) (r : Int) = some (nV (ms.getD r 0)) := by
      refine atI_nat ?_
      rw [List.getElem?_map, List.getElem?_eq_getElem lr2, List.getD_eq_getElem?_getD, List.getElem?_eq_getElem lr2]
      rfl
    refine ⟨T, _, rfl, SqT.of upd_same, rfl, _, _, rfl, _, _, rfl, rfl, ?_⟩
    refine ⟨_, rfl, _, rfl, b, _, _, _, rfl, rfl, sameT (s1.trans sT) hB, ea, _, rfl, _, _, rfl, rfl, by omega, _, _, rfl, rfl, (ms.getD r 0).testBit j, ?_, ?_⟩
    · show (ms.getD r 0).testBit j = (Builtin.bitAnd (((ms.getD r 0 : Nat) : Int) / 2 ^ ((j : Nat) : Int).toNat) 1 != 0)
      rw [bitNat]
      cases (ms.getD r 0).testBit j <;> rfl
    · refine ite2 (fun c1 => ⟨_, rfl, ?_⟩) (fun c1 => ⟨_, _, rfl, s1.trans sT, fun k y lk hk => ?_⟩)
      · have e : firstAbove row ms j = i := findIdx_take _ row i r hr0 no c1
        have z := q (upd H1 T (.tup [V.int (i : Nat), nV r])) (s1.trans sT)
        rw [e] at z
        exact z
      · by_cases ki : k = i
        · subst ki
          rw [hr0] at hk
          obtain rfl := Option.some.inj hk
          cases h0 : (ms.getD r 0).testBit j with
          | false => rfl
          | true => exact absurd h0 c1
        · exact no k y (by omega) hk
  · rintro σ H1 ⟨t3, t4, rfl, s1, no⟩
    refine ⟨_, rfl, a, _, rfl, .inr (sameT s1 hA), ?_⟩
    have e : firstAbove row ms j = row.length := findIdx_none _ row fun k y lk hk => no k y (by rw [lr]; exact lk) hk
    have z := q H1 s1
    rw [e] at z
    rw [lr]
    exact z
abbrev sNexts : Stmt := top 24
abbrev nNexts : List Str := ["rows", "masks", "at", "row"]
theorem scNx : FnScope nNexts ["rows", "masks"] (defScope sNexts) := ⟨rfl, rfl, rfl, by decide +kernel, rfl, by decide +kernel, by decide +kernel⟩
/-- for each number the first places above it -/
def nextsOf (rows : List (List Nat)) (ms : List Nat) : List (List Nat) := (List.range ms.length).map fun j => rows.map fun row => firstAbove row ms j
def spNexts (K : PySem.W.Frag) : Sp := fun vs H Q _ => ∃ (a b : Addr) (xs : List V) (rows : List (List Nat)) (ms : List Nat), vs = [.ref a, .ref b] ∧ SqT K H a xs ∧ TabAt K H xs rows ∧ SqT K H b (ms.map nV) ∧ (∀ row ∈ rows, row.length ≤ 1000 ∧ ∀ k ∈ row, k < ms.length) ∧ rows.length ≤ 40 ∧ ms.length ≤ 40 ∧
  ∀ (p : Addr) (vs : List V) (H' : Hp), Same H H' → H p = none → H' p = some (.tup vs) → TabNew H H' vs (nextsOf rows ms) → Q (.ref p) H'
theorem TabAt.same {H H' : Hp} {vs : List V} {rows : List (List Nat)} (h : TabAt K H vs rows) (s : Same H H') : TabAt K H' vs rows := ⟨h.1, fun i v hv => let ⟨p, a, b⟩ := h.2 i v hv; ⟨p, a, sameT s b⟩⟩
theorem ok_nexts {f : Addr} {fd : FuncData} (F : Fun K "next_table" "next_table" sNexts f fd) (J : Dn P w K mg base 1 "first_above" ["row", "masks", "number"] (spFirst K)) (mr : mg "range" = none) (mn : mg "len" = none) (mt : mg "tuple" = none) : FnOk P w K mg base CX0 2 f fd ["rows", "masks"] (spNexts K) := by
  obtain ⟨g, gd, G, kG, bG, mG⟩ := J.ex
  refine F.ok scNx (fun vs H Q E h => ?_) (fun cdv A outer s H vs Q E hr h => ?_)
  · obtain ⟨a, b, xs, rows, ms, rfl, _⟩ := h
    rfl
  obtain ⟨a, b, xs, rows, ms, rfl, hA, hT, hB, hrow, r40, m40, q⟩ := h
  refine ⟨_, pss_one (ps_ret (pe_callTy call_tuple_of (by rfl) mt (by decide +kernel) (pa_cons (pe_lc (own := [("at", 2)]) (g := gName 2) (tt := tYes) rfl scNx.nd (pi_range1 (by rfl) mr (pa_cons (pe_callB call_len_seq (by rfl) mn PySem.boot_len (pa_cons (pv 1) pa_nil)) pa_nil)) (blkOk_by (N := nNexts) (sc := defScope sNexts) (by decide +kernel))
      (fun _ _ _ _ _ => pg_name (i := 2) scNx.nd rfl (Or.inr rfl)) (fun _ _ _ _ _ => pts_nil)
      (fun _ _ _ _ _ => pe_callTy (tupOfF (K := K) rfl) (by rfl) mt (by decide +kernel) (pa_cons (pe_lc (own := [("row", 3)]) (g := gName 3) (tt := tYes) rfl scNx.nd (pi_tupK (K := K) rfl (pv 0)) (blkOk_by (N := nNexts) (sc := relSc (defScope sNexts) (lcSc (arg0 (retOf sNexts)))) (by decide +kernel))
        (fun _ _ _ _ _ => pg_name (i := 3) scNx.nd rfl (Or.inl rfl)) (fun _ _ _ _ _ => pts_nil)
        (fun _ _ _ _ _ => pe_call G hr rfl mG kG bG .nil pass0 (pa_cons (pv 3) (pa_cons (pv 1) (pa_cons (pv 2) pa_nil))))) pa_nil))) pa_nil))), ?_⟩
  have lm : (ms.map nV).length = ms.length := List.length_map _
  refine ⟨_, rfl, b, _, rfl, .inr hB, _, rfl, by omega, by omega, fun D hD => ?_⟩
  refine lcG walk_range noS (fun _ => True) (fun _ => true) (fun i v H' => ∃ p : Addr, v = .ref p ∧ H p = none ∧ FzT H' p ((rows.map fun row => firstAbove row ms i).map nV)) hD Al.empty (fun _ _ _ _ => trivial) trivial (by omega) (fun _ _ => trivial) ?_ ?_
  · rintro i x H1 _ KT KF hi k1 _ ⟨acc, eD⟩ ⟨rfl, rfl⟩ kt kf
    refine ⟨rfl, yesT (iteT ⟨_, rfl, a, rfl, ⟨_, sameT k1.same hA⟩, fun D2 hD2 => ?_⟩)⟩
    have ei : (0 : Int) + (i : Int) = ((i : Nat) : Int) := by omega
    refine lcF (walk_tup (K := K) (a := a) (xs := xs)) (fun _ => true) (fun q => nV (firstAbove (rows.getD q []) ms i)) hD2 (by rw [hT.1]; omega) (fun H6 s => sameT (k1.same.trans s) hA) ?_ ?_
    · rintro j x H6 _ KT2 KF2 hj s7 ⟨rfl, hx⟩ kt2 kf2
      obtain ⟨p, rfl, hp⟩ := (hT.same (k1.same.trans s7)).2 j x hx
      have lj : j < rows.length := by
        rw [← hT.1]
        exact hj
      have mem : rows.getD j [] ∈ rows := by
        rw [List.getD_eq_getElem?_getD, List.getElem?_eq_getElem lj]
        exact List.getElem_mem lj
      obtain ⟨w1, w2⟩ := hrow _ mem
      exact ⟨rfl, yesT (iteT ⟨_, rfl, _, rfl, _, rfl, p, b, _, ms, i, congrArg (fun z : Int => [V.ref p, V.ref b, V.int z]) ei, hp, sameT (k1.same.trans s7) hB, w2, w1, fun H9 s9 => kt2 _ _ rfl s9 rfl⟩)⟩
    · intro H6 s7 e7
      refine ⟨_, _, rfl, SqL.of e7, fun l ob dn cl hl => kt _ _ rfl (KS.of (s7.trans (smNew hl))) trivial ?_⟩
      have ld : ¬ ins noS D l := fun h => by
        rcases h with h | h
        · exact h
        · rw [h, s7 _ _ eD] at hl
          cases hl
      have er : (idx (fun _ => true) xs.length).map (fun q => nV (firstAbove (rows.getD q []) ms i)) = (rows.map fun row => firstAbove row ms i).map nV := by
        rw [hT.1, idx_list (fun row => nV (firstAbove row ms i)) [] rows, List.map_map]
        rfl
      rw [er]
      exact (St'.cell upd_same ld).mono fun H' h => ⟨l, rfl, (k1.same.trans s7).free hl, ob, dn, cl, h⟩
  · intro H1 acc k1 _ eD hb
    refine ⟨_, _, rfl, .inl ⟨SqL.of eD, fun p hp => q p acc _ (k1.same.trans (smNew hp)) (k1.same.free hp) upd_same ?_⟩⟩
    rw [idx_all] at hb
    have en : ((ms.map nV).length : Int).toNat = ms.length := by rw [lm, Int.toNat_natCast]
    rw [en] at hb
    refine TabNew.same ⟨?_, fun j v hv => ?_⟩ (smNew hp)
    · have z := hb.1
      rw [z]
      exact (List.length_map (as := List.range ms.length) _).symm
    · obtain ⟨k, hk, hr2⟩ := hb.2 j v hv
      obtain ⟨p2, e1, e2, e3⟩ := hr2.now
      refine ⟨p2, e1, e2, ?_⟩
      have er : (nextsOf rows ms).getD j [] = rows.map fun row => firstAbove row ms k := by
        unfold nextsOf
        rw [List.getD_eq_getElem?_getD, List.getElem?_map, hk]
        rfl
      rw [er]
      exact e3
end
end L2.K2


namespace L2.K2
open PySem L2 L2.Bv L2.Pc L2.Ts
theorem tyL {K : PySem.W.Frag} {H : Hp} {a : Addr} {xs : List V} (h : SqL K H a xs) : TyX K H (.ref a) (.type "list") := by
  rcases h with (h | ⟨o, h⟩) | ⟨o, its, n, e, c, _⟩
  · exact .base (.lst h)
  · exact .base (.frz h)
  · exact .kList e c
theorem tyT {K : PySem.W.Frag} {H : Hp} {a : Addr} {xs : List V} (h : SqT K H a xs) : TyX K H (.ref a) (.type "tuple") := by
  rcases h with (h | ⟨o, h⟩) | ⟨o, its, n, e, c, _⟩
  · exact .base (.tup h)
  · exact .fTuple h
  · exact .kTuple e c
theorem kitOk {K : PySem.W.Frag} {a b : String} {r : Bool} (h : kitB a b = some r) : PySem.W.kitOne K (.type a) (.type b) = some r := h
abbrev sSeq : Stmt := top 7
abbrev sName : Stmt := top 8
abbrev sKnown : Stmt := top 9
abbrev sRises : Stmt := top 10
theorem scSq : FnScope ["value"] ["value"] (defScope sSeq) := ⟨rfl, rfl, rfl, by decide +kernel, rfl, by decide +kernel, by decide +kernel⟩
theorem scNa : FnScope ["value", "sign"] ["value"] (defScope sName) := ⟨rfl, rfl, rfl, by decide +kernel, rfl, by decide +kernel, by decide +kernel⟩
theorem scKn : FnScope ["value", "known"] ["value", "known"] (defScope sKnown) := ⟨rfl, rfl, rfl, by decide +kernel, rfl, by decide +kernel, by decide +kernel⟩
theorem scRi : FnScope ["things", "one", "other"] ["things"] (defScope sRises) := ⟨rfl, rfl, rfl, by decide +kernel, rfl, by decide +kernel, by decide +kernel⟩
def spSeq (K : PySem.W.Frag) : Sp := fun vs H Q _ => ∃ (a : Addr) (xs : List V), vs = [.ref a] ∧ SqL K H a xs ∧ ∀ H', Same H H' → Q (.bl true) H'
def spName : Sp := fun vs H Q _ => ∃ z : Str, vs = [.str z] ∧ IsNm z ∧ ∀ H', Same H H' → Q (.bl true) H'
def spKnown (K : PySem.W.Frag) : Sp := fun vs H Q _ => ∃ (z : Str) (a : Addr), vs = [.str z, .ref a] ∧ ((∃ kvs, H a = some (.dK kvs) ∧ (valV kvs (.inr z)).isSome = true) ∨ ∃ ys : List Str, SqL K H a (ys.map V.str) ∧ z ∈ ys) ∧ Q (.bl true) H
/-- texts in strict order -/
def Rising (ys : List Str) : Prop := ys.Pairwise fun x y => x.cps.toList < y.cps.toList
def spRises (K : PySem.W.Frag) : Sp := fun vs H Q _ => ∃ (a : Addr) (ys : List Str), vs = [.ref a] ∧ SqT K H a (ys.map V.str) ∧ Rising ys ∧ ys.length ≤ 1000 ∧ ∀ H', Same H H' → Q (.bl true) H'
section
variable {P : Program} {w : World} {K : PySem.W.Frag} {mg : Str → Option Value} {base : Heap}
theorem ok_seq {f : Addr} {fd : FuncData} (F : Fun K "is_sequence" "is_sequence" sSeq f fd) (mi : mg "isinstance" = none) (ml : mg "list" = none) (mt : mg "tuple" = none) : FnOk P w K mg base CX0 1 f fd ["value"] (spSeq K) := by
  refine F.ok scSq (fun vs H Q E h => ?_) (fun cdv A outer s H vs Q E hr h => ?_)
  · obtain ⟨a, xs, rfl, _⟩ := h
    rfl
  obtain ⟨a, xs, rfl, hA, q⟩ := h
  refine ⟨_, pss_one (ps_ret (pe_callB call_isiT (by rfl) mi (by decide +kernel) (pa_cons (pv 0) (pa_cons (pe_tup (pa_cons (pe_bltn (by rfl) ml (by decide +kernel) (show RelV (.ty "list") (Value.type "list") from rfl)) (pa_cons (pe_bltn (by rfl) mt (by decide +kernel) (show RelV (.ty "tuple") (Value.type "tuple") from rfl)) pa_nil))) pa_nil)))), ?_⟩
  refine ⟨_, rfl, by show 2 ≤ sizeLine; decide, fun t ht => ⟨.ref a, t, _, .type "list", [.type "list", .type "tuple"], true, rfl, upd_same, .cons (.ty _) (.cons (.ty _) .nil), tyL ((smNew ht).seq hA), ?_, q _ (smNew ht)⟩⟩
  exact kitAny_cons (b := true) (kitOk (by decide +kernel)) (fun z => nomatch z) (fun _ => rfl)
theorem ok_name {f : Addr} {fd : FuncData} (F : Fun K "is_name" "is_name" sName f fd) (mi : mg "isinstance" = none) (ms : mg "str" = none) (mn : mg "len" = none) (ma : mg "all" = none) (mL : ∃ t, mg "LONGEST_NAME" = some (.int 8 t)) (mT : ∃ t, mg "LETTERS" = some (.str "abcdefghijklmnopqrstuvwxyz" t)) : FnOk P w K mg base CX0 1 f fd ["value"] spName := by
  obtain ⟨tL, mL⟩ := mL
  obtain ⟨tT, mT⟩ := mT
  refine F.ok scNa (fun vs H Q E h => ?_) (fun cdv A outer s H vs Q E hr h => ?_)
  · obtain ⟨z, rfl, _⟩ := h
    rfl
  obtain ⟨z, rfl, hz, q⟩ := h
  refine ⟨_, pss_cons (ps_if (PW.pt (pw_or (pt_not (pt_val (pe_callB call_isi (by rfl) mi (by decide +kernel) (pa_cons (pv 0) (pa_cons (pe_bltn (by rfl) ms (by decide +kernel) (show RelV (.ty "str") (Value.type "str") from rfl)) pa_nil)))))
      (pw_or1 (pt_not (pt_chain op_le op_le pe_int (pe_callB call_len_str (by rfl) mn PySem.boot_len (pa_cons (pv 0) pa_nil)) (pe_glob (v := .int 8) rfl mL ⟨_, rfl⟩)))))) (pss_one (ps_ret pe_bl)) pss_nil)
    (pss_one (ps_ret (pe_callB (cr_all rfl) (by rfl) ma (by decide +kernel) (pa_cons (pe_lc (own := [("sign", 1)]) (g := gName 1) (tt := tYes) rfl scNa.nd (pi_str (pv 0)) (blkOk_by (N := ["value", "sign"]) (sc := defScope sName) (by decide +kernel)) (fun _ _ _ _ _ => pg_name (i := 1) scNa.nd rfl (Or.inl rfl)) (fun _ _ _ _ _ => pts_nil)
      (fun _ _ _ _ _ => pe_cmpR op_in_sign (pv 1) (pe_glob (v := .str "abcdefghijklmnopqrstuvwxyz") rfl mT ⟨_, rfl⟩) (by rfl))) pa_nil)))), ?_⟩
  refine ⟨_, rfl, .str z, .ty "str", .type "str", .type "str", true, rfl, .ty _, .base (.str z), kitOk (by decide +kernel), _, rfl, ?_⟩
  obtain ⟨z1, z8, zc⟩ := hz
  refine iteF ⟨_, rfl, _, rfl, Nat.le_of_lt (small1000 (by omega)), _, _, rfl, rfl, _, rfl, ite2 (fun _ => ?_) (fun c => absurd (decide_eq_true (by omega)) c)⟩
  refine ⟨_, _, rfl, rfl, _, rfl, iteNS (by omega) ?_⟩
  refine ⟨_, rfl, z, rfl, fun D hD => ?_⟩
  refine lcF (walk_str (z := z)) (fun _ => true) (fun _ => V.bl true) hD (by show z.length ≤ 1000; omega) (fun _ _ => trivial) ?_ ?_
  · rintro i x H1 _ KT KF hi s1 ⟨rfl, c, hc, rfl⟩ kt kf
    refine ⟨rfl, yesT (iteT ⟨_, rfl, c, _, rfl, rfl, kt _ _ rfl (Same.refl _) ?_⟩)⟩
    have m : c ∈ z.cps.toList := Array.mem_toList_iff.mpr (Array.mem_of_getElem? hc)
    have m2 : c ∈ ("abcdefghijklmnopqrstuvwxyz" : Str).cps.toList := by
      have e : ("abcdefghijklmnopqrstuvwxyz" : Str).cps.toList = lowCs := by decide +kernel
      rw [e]
      exact zc c m
    exact congrArg V.bl (decide_eq_true m2)
  · intro H1 s1 e1
    have eb : (idx (fun _ => true) z.cps.size).map (fun _ => V.bl true) = (List.replicate z.cps.size true).map V.bl := by
      rw [idx_all, List.map_replicate]
      refine List.ext_getElem? fun j => ?_
      rw [List.getElem?_map, List.getElem?_replicate]
      by_cases lt : j < z.cps.size
      · rw [List.getElem?_range lt, if_pos lt]
        rfl
      · rw [if_neg lt, List.getElem?_eq_none_iff.mpr (by rw [List.length_range]; omega)]
        rfl
    refine ⟨D, _, rfl, SqL.of (by rw [e1, eb]), ?_⟩
    have ea : (List.replicate z.cps.size true).all id = true := List.all_eq_true.mpr fun b hb => by
      rw [List.eq_of_mem_replicate hb]
      rfl
    rw [ea]
    exact q H1 s1
theorem ok_known {f : Addr} {fd : FuncData} (F : Fun K "is_known" "is_known" sKnown f fd) (mi : mg "isinstance" = none) (ms : mg "str" = none) : FnOk P w K mg base CX0 1 f fd ["value", "known"] (spKnown K) := by
  refine F.ok scKn (fun vs H Q E h => ?_) (fun cdv A outer s H vs Q E hr h => ?_)
  · obtain ⟨z, a, rfl, _⟩ := h
    rfl
  obtain ⟨z, a, rfl, hk, q⟩ := h
  have hu := hu_of hr
  refine ⟨_, pss_one (ps_ret (pe_and (pe_callB call_isi (by rfl) mi (by decide +kernel) (pa_cons (pv 0) (pa_cons (pe_bltn (by rfl) ms (by decide +kernel) (show RelV (.ty "str") (Value.type "str") from rfl)) pa_nil)))
    (pe_one (pe_either (pe_cmp (pc_din hu (pv 0) (pv 1)) rfl) (pe_cmpR op_in_seq (pv 0) (pv 1) (by rfl)))))), ?_⟩
  refine ⟨_, rfl, .str z, .ty "str", .type "str", .type "str", true, rfl, .ty _, .base (.str z), kitOk (by decide +kernel), _, rfl, iteT ?_⟩
  rcases hk with ⟨kvs, e, hv⟩ | ⟨ys, e, hy⟩
  · refine .inl ⟨_, rfl, _, rfl, a, _, rfl, DGet.k (k := Sum.inr z) e, ?_⟩
    rw [hv]
    exact q
  · refine .inr ⟨_, rfl, _, rfl, a, _, rfl, .inl e, rfl, flatStr ys, ?_⟩
    have ei : inV (.str z) (ys.map V.str) = true := by rw [inStr]; exact decide_eq_true hy
    rw [ei]
    exact q
theorem ok_rises {f : Addr} {fd : FuncData} (F : Fun K "rises" "rises" sRises f fd) (ma : mg "all" = none) (mz : mg "zip" = none) : FnOk P w K mg base CX0 1 f fd ["things"] (spRises K) := by
  refine F.ok scRi (fun vs H Q E h => ?_) (fun cdv A outer s H vs Q E hr h => ?_)
  · obtain ⟨a, ys, rfl, _⟩ := h
    rfl
  obtain ⟨a, ys, rfl, hA, ri, l1000, q⟩ := h
  refine ⟨_, pss_one (ps_ret (pe_callB (cr_all rfl) (by rfl) ma (by decide +kernel) (pa_cons (pe_lc (own := [("one", 1), ("other", 2)]) (g := gTup K 2 (gCons (gName 1) (gCons (gName 2) gNil))) (tt := tYes) rfl scRi.nd (RZ.pi_zipA (by rfl) mz (pa_cons (pv 0) (pa_cons (pe_slice Ts.sl_tupA (pv 0) (po_some pe_int) po_none) pa_nil)))
      (blkOk_by (N := ["things", "one", "other"]) (sc := defScope sRises) (by decide +kernel)) (fun _ _ _ _ _ => pg_tupK rfl rfl (pgs_cons (pg_name (i := 1) scRi.nd rfl (Or.inl rfl)) (pgs_cons (pg_name (i := 2) scRi.nd rfl (Or.inl rfl)) pgs_nil)) rfl) (fun _ _ _ _ _ => pts_nil)
      (fun _ _ _ _ _ => pe_cmpR op_lt_str (pv 1) (pv 2) (nomark _))) pa_nil))), ?_⟩
  have lys : (ys.map V.str).length = ys.length := List.length_map _
  refine ⟨_, rfl, _, rfl, _, rfl, a, _, rfl, hA, fun w1 w2 => ?_, fun _ p hp => ?_⟩
  · have e0 : ys = [] := by
      have z : min 1 (ys.map V.str).length = 0 := by
        rw [← HT.sIx_nat _ 0]
        exact w1
      rw [lys] at z
      exact List.length_eq_zero_iff.mp (by omega)
    subst e0
    refine ⟨a, a, [], [], rfl, .inr ⟨hA, hA, fun D hD => ?_⟩⟩
    refine lcF (walk_zipT (K := K) (a := a) (b := a) (xs := []) (ys := []) (n := 0) rfl) (fun _ => true) (fun _ => V.bl true) hD (by decide) (fun H1 s => ⟨sameT s hA, sameT s hA⟩) (fun i x H1 _ KT KF hi => absurd hi (by omega)) fun H1 s1 e1 => ?_
    exact ⟨D, [], rfl, SqL.of e1, q H1 s1⟩
  · have ec : cutV (ys.map V.str) (some 1) none = (ys.drop 1).map V.str := by
      have z := cutFrom (ys.map V.str) 1
      rw [← List.map_drop] at z
      exact z
    have sp : Same H (upd H p (.tup (cutV (ys.map V.str) (some 1) none))) := smNew hp
    refine ⟨a, p, ys.map V.str, (ys.drop 1).map V.str, rfl, .inr ⟨sameT sp hA, SqT.of (by rw [upd_same, ec]), fun D hD => ?_⟩⟩
    refine lcF (walk_zipT (K := K) (a := a) (b := p) (xs := ys.map V.str) (ys := (ys.drop 1).map V.str) (n := ys.length - 1) (by rw [lys, List.length_map, List.length_drop]; omega)) (fun _ => true) (fun _ => V.bl true) hD (by omega) (fun H1 s => ⟨sameT (sp.trans s) hA, sameT s (SqT.of (by rw [upd_same, ec]))⟩) ?_ ?_
    · rintro i x H1 _ KT KF hi s1 ⟨T, y1, y2, rfl, hT, rfl, yi, yx⟩ kt kf
      obtain ⟨u, hu, rfl⟩ := strGet yi
      obtain ⟨v, hv, rfl⟩ := strGet yx
      rw [List.getElem?_drop] at hv
      have lt : u.cps.toList < v.cps.toList := by
        have z := List.pairwise_iff_getElem.mp ri i (1 + i) (List.getElem?_eq_some_iff.mp hu).1 (List.getElem?_eq_some_iff.mp hv).1 (by omega)
        rw [(List.getElem?_eq_some_iff.mp hu).2, (List.getElem?_eq_some_iff.mp hv).2] at z
        exact z
      refine ⟨T, _, rfl, SqT.of upd_same, rfl, _, _, rfl, _, _, rfl, rfl, rfl, yesT (iteT ⟨_, rfl, _, rfl, _, _, rfl, rfl, kt _ _ rfl (smNew hT) (congrArg V.bl (decide_eq_true lt))⟩)⟩
    · intro H1 s1 e1
      have eb : (idx (fun _ => true) (ys.length - 1)).map (fun _ => V.bl true) = ((idx (fun _ => true) (ys.length - 1)).map fun _ => true).map V.bl := by
        rw [List.map_map]
        rfl
      refine ⟨D, _, rfl, SqL.of (by rw [e1, eb]), ?_⟩
      have ea : ((idx (fun _ => true) (ys.length - 1)).map fun _ => true).all id = true := List.all_eq_true.mpr fun b hb => by
        obtain ⟨_, _, rfl⟩ := List.mem_map.mp hb
        rfl
      rw [ea]
      exact q H1 (sp.trans s1)
end
end L2.K2


namespace L2.K2
open PySem L2 L2.Bv L2.Pc L2.Ts
abbrev sLot : Stmt := top 11
abbrev sHands : Stmt := top 17
abbrev sNote : Stmt := top 18
theorem scLo : FnScope ["value", "known", "name"] ["value", "known"] (defScope sLot) := ⟨rfl, rfl, rfl, by decide +kernel, rfl, by decide +kernel, by decide +kernel⟩
theorem scHa : FnScope ["value", "name"] ["value"] (defScope sHands) := ⟨rfl, rfl, rfl, by decide +kernel, rfl, by decide +kernel, by decide +kernel⟩
theorem scNt : FnScope ["value", "hands", "owners", "name", "hand", "waits"] ["value", "hands", "owners"] (defScope sNote) := ⟨rfl, rfl, rfl, by decide +kernel, rfl, by decide +kernel, by decide +kernel⟩
def spLot (K : PySem.W.Frag) : Sp := fun vs H Q _ => ∃ (a k : Addr) (ys : List Str) (kvs : List (Key × V)), vs = [.ref a, .ref k] ∧ SqT K H a (ys.map V.str) ∧ H k = some (.dK kvs) ∧ (∀ y ∈ ys, (valV kvs (.inr y)).isSome = true) ∧ Rising ys ∧ ys.length ≤ 1000 ∧ ∀ H', Same H H' → Q (.bl true) H'
/-- hands as they may be -/
structure HdOk (hs : List Str) : Prop where
  two : 2 ≤ hs.length
  six : hs.length ≤ 6
  nd : hs.Nodup
  nm : ∀ z ∈ hs, IsNm z
def spHands (K : PySem.W.Frag) : Sp := fun vs H Q _ => ∃ (a : Addr) (hs : List Str), vs = [.ref a] ∧ SqL K H a (hs.map V.str) ∧ HdOk hs ∧ ∀ H', Same H H' → Q (.bl true) H'
def spNote (K : PySem.W.Frag) : Sp := fun vs H Q _ => ∃ (p w0 h o : Addr) (nm hd : Str) (ws hs : List Str) (ko : List (Key × V)), vs = [.ref p, .ref h, .ref o] ∧ SqT K H p [.str nm, .str hd, .ref w0] ∧ SqT K H w0 (ws.map V.str) ∧ SqL K H h (hs.map V.str) ∧ H o = some (.dK ko) ∧
  hd ∈ hs ∧ IsNm nm ∧ valV ko (.inr nm) = none ∧ (∀ x ∈ ws, (valV ko (.inr x)).isSome = true) ∧ Rising ws ∧ ws.length ≤ 1000 ∧ ∀ H', Same H H' → Q (.bl true) H'
theorem allTrue (n : Nat) : (idx (fun _ => true) n).map (fun _ => V.bl true) = ((idx (fun _ => true) n).map fun _ => true).map V.bl ∧ ((idx (fun _ => true) n).map fun _ => true).all id = true := by
  constructor
  · rw [List.map_map]
    rfl
  · refine List.all_eq_true.mpr fun b hb => ?_
    obtain ⟨_, _, rfl⟩ := List.mem_map.mp hb
    rfl
section
variable {P : Program} {w : World} {K : PySem.W.Frag} {mg : Str → Option Value} {base : Heap}
theorem ok_lot {f : Addr} {fd : FuncData} (F : Fun K "is_lot_of" "is_lot_of" sLot f fd) (N : Dn P w K mg base 1 "is_known" ["value", "known"] (spKnown K)) (R : Dn P w K mg base 1 "rises" ["things"] (spRises K)) (mi : mg "isinstance" = none) (mt : mg "tuple" = none) (ma : mg "all" = none) : FnOk P w K mg base CX0 2 f fd ["value", "known"] (spLot K) := by
  obtain ⟨g, gd, G, kG, bG, mG⟩ := N.ex
  obtain ⟨r, rd, R, kR, bR, mR⟩ := R.ex
  refine F.ok scLo (fun vs H Q E h => ?_) (fun cdv A outer s H vs Q E hr h => ?_)
  · obtain ⟨a, k, ys, kvs, rfl, _⟩ := h
    rfl
  obtain ⟨a, k, ys, kvs, rfl, hA, hk, hv, ri, l1000, q⟩ := h
  refine ⟨_, pss_cons (ps_if (pt_not (pt_val (pe_callB call_isi (by rfl) mi (by decide +kernel) (pa_cons (pv 0) (pa_cons (pe_bltn (by rfl) mt (by decide +kernel) (show RelV (.ty "tuple") (Value.type "tuple") from rfl)) pa_nil))))) (pss_one (ps_ret pe_bl)) pss_nil)
    (pss_one (ps_ret (pe_and (pe_callB (cr_all rfl) (by rfl) ma (by decide +kernel) (pa_cons (pe_lc (own := [("name", 2)]) (g := gName 2) (tt := tYes) rfl scLo.nd (pi_tup (pv 0)) (blkOk_by (N := ["value", "known", "name"]) (sc := defScope sLot) (by decide +kernel)) (fun _ _ _ _ _ => pg_name (i := 2) scLo.nd rfl (Or.inl rfl)) (fun _ _ _ _ _ => pts_nil)
      (fun _ _ _ _ _ => pe_call G hr rfl mG kG bG .nil pass0 (pa_cons (pv 2) (pa_cons (pv 1) pa_nil)))) pa_nil))
      (pe_one (pe_call R hr rfl mR kR bR .nil pass0 (pa_cons (pv 0) pa_nil)))))), ?_⟩
  have lys : (ys.map V.str).length = ys.length := List.length_map _
  refine ⟨_, rfl, .ref a, .ty "tuple", .type "tuple", .type "tuple", true, rfl, .ty _, tyT hA, kitOk (by decide +kernel), _, rfl, iteF ?_⟩
  refine ⟨_, rfl, a, rfl, ⟨_, hA⟩, fun D hD => ?_⟩
  refine lcF (walk_tup (K := K) (a := a) (xs := ys.map V.str)) (fun _ => true) (fun _ => V.bl true) hD (by omega) (fun H1 s => sameT s hA) ?_ ?_
  · rintro i x H1 _ KT KF hi s1 ⟨rfl, hx⟩ kt kf
    obtain ⟨z, hz, rfl⟩ := strGet hx
    exact ⟨rfl, yesT (iteT ⟨_, rfl, _, rfl, z, k, rfl, .inl ⟨kvs, s1 _ _ hk, hv z (List.mem_of_getElem? hz)⟩, kt _ _ rfl (Same.refl _) rfl⟩)⟩
  · intro H1 s1 e1
    obtain ⟨t1, t2⟩ := allTrue (ys.map V.str).length
    refine ⟨D, _, rfl, SqL.of (by rw [e1, t1]), _, rfl, ?_⟩
    rw [t2]
    exact iteT ⟨_, rfl, a, ys, rfl, sameT s1 hA, ri, l1000, fun H2 s2 => q H2 (s1.trans s2)⟩
theorem ok_hands {f : Addr} {fd : FuncData} (F : Fun K "are_hands" "are_hands" sHands f fd) (S : Dn P w K mg base 1 "is_sequence" ["value"] (spSeq K)) (N : Dn P w K mg base 1 "is_name" ["value"] spName) (mn : mg "len" = none) (ma : mg "all" = none) (mS : mg "set" = none)
    (mF : ∃ t, mg "FEWEST_HANDS" = some (.int 2 t)) (mM : ∃ t, mg "MOST_HANDS" = some (.int 6 t)) : FnOk P w K mg base CX0 2 f fd ["value"] (spHands K) := by
  obtain ⟨s0, sd, S, kS, bS, mS0⟩ := S.ex
  obtain ⟨g, gd, G, kG, bG, mG⟩ := N.ex
  obtain ⟨tF, mF⟩ := mF
  obtain ⟨tM, mM⟩ := mM
  refine F.ok scHa (fun vs H Q E h => ?_) (fun cdv A outer s H vs Q E hr h => ?_)
  · obtain ⟨a, hs, rfl, _⟩ := h
    rfl
  obtain ⟨a, hs, rfl, hA, ok, q⟩ := h
  refine ⟨_, pss_cons (ps_if (PW.pt (pw_or (pt_not (pt_val (pe_call S hr rfl mS0 kS bS .nil pass0 (pa_cons (pv 0) pa_nil)))) (pw_or1 (pt_not (pt_chain op_le op_le (pe_glob (v := .int 2) rfl mF ⟨_, rfl⟩) (pe_callB call_len_seq (by rfl) mn PySem.boot_len (pa_cons (pv 0) pa_nil)) (pe_glob (v := .int 6) rfl mM ⟨_, rfl⟩)))))) (pss_one (ps_ret pe_bl)) pss_nil)
    (pss_cons (ps_if (pt_not (pt_val (pe_callB (cr_all rfl) (by rfl) ma (by decide +kernel) (pa_cons (pe_lc (own := [("name", 1)]) (g := gName 1) (tt := tYes) rfl scHa.nd (pi_list (pv 0)) (blkOk_by (N := ["value", "name"]) (sc := defScope sHands) (by decide +kernel)) (fun _ _ _ _ _ => pg_name (i := 1) scHa.nd rfl (Or.inl rfl)) (fun _ _ _ _ _ => pts_nil)
        (fun _ _ _ _ _ => pe_call G hr rfl mG kG bG .nil pass0 (pa_cons (pv 1) pa_nil))) pa_nil)))) (pss_one (ps_ret pe_bl)) pss_nil)
    (pss_one (ps_ret (pe_cmpR op_eq (pe_callB cr_lenT (by rfl) mn PySem.boot_len (pa_cons (pe_callTy (cr_setT rfl) (by rfl) mS (by decide +kernel) (pa_cons (pv 0) pa_nil)) pa_nil)) (pe_callB call_len_seq (by rfl) mn PySem.boot_len (pa_cons (pv 0) pa_nil)) (nomark _))))), ?_⟩
  have lhs : (hs.map V.str).length = hs.length := List.length_map _
  have l2 := ok.two
  have l6 := ok.six
  refine ⟨_, rfl, a, _, rfl, hA, fun H1 s1 => ⟨_, rfl, iteF ?_⟩⟩
  refine ⟨_, rfl, a, _, rfl, .inl (s1.seq hA), _, _, rfl, rfl, _, rfl, ite2 (fun _ => ?_) (fun c => absurd (decide_eq_true (by omega)) c)⟩
  refine ⟨_, _, rfl, rfl, _, rfl, iteNS (by omega) ?_⟩
  refine ⟨_, rfl, a, rfl, ⟨_, s1.seq hA⟩, fun D hD => ?_⟩
  refine lcF (walk_list (K := K) (a := a) (xs := hs.map V.str)) (fun _ => true) (fun _ => V.bl true) hD (by omega) (fun H2 s => (s1.trans s).seq hA) ?_ ?_
  · rintro i x H2 _ KT KF hi s2 ⟨rfl, hx⟩ kt kf
    obtain ⟨z, hz, rfl⟩ := strGet hx
    exact ⟨rfl, yesT (iteT ⟨_, rfl, z, rfl, ok.nm z (List.mem_of_getElem? hz), fun H3 s3 => kt _ _ rfl s3 rfl⟩)⟩
  · intro H2 s2 e2
    obtain ⟨t1, t2⟩ := allTrue (hs.map V.str).length
    refine ⟨D, _, rfl, SqL.of (by rw [e2, t1]), _, rfl, ?_⟩
    rw [t2]
    refine iteF ?_
    have s12 := s1.trans s2
    refine ⟨_, rfl, a, hs, rfl, s12.seq hA, by omega, fun t ht => ⟨t, once hs, rfl, upd_same, ?_⟩⟩
    have s3 := s12.trans (smNew (o := TSo P w t (once hs)) ht)
    refine ⟨_, rfl, a, _, rfl, .inl (s3.seq hA), rfl, ?_⟩
    have e : decide (V.int ((once hs).length : Nat) = V.int ((hs.map V.str).length : Nat)) = true := decide_eq_true (by rw [once_same ok.nd, lhs])
    rw [e]
    exact q _ s3
theorem ok_note {f : Addr} {fd : FuncData} (F : Fun K "is_note" "is_note" sNote f fd) (N : Dn P w K mg base 1 "is_name" ["value"] spName) (Kn : Dn P w K mg base 1 "is_known" ["value", "known"] (spKnown K)) (L : Dn P w K mg base 2 "is_lot_of" ["value", "known"] (spLot K)) (mi : mg "isinstance" = none) (mt : mg "tuple" = none) (mn : mg "len" = none) :
    FnOk P w K mg base CX0 3 f fd ["value", "hands", "owners"] (spNote K) := by
  obtain ⟨n0, nd0, N, kN, bN, mN⟩ := N.ex
  obtain ⟨g, gd, G, kG, bG, mG⟩ := Kn.ex
  obtain ⟨l0, ld0, L, kL, bL, mL⟩ := L.ex
  refine F.ok scNt (fun vs H Q E h => ?_) (fun cdv A outer s H vs Q E hr h => ?_)
  · obtain ⟨p, w0, h, o, nm, hd, ws, hs, ko, rfl, _⟩ := h
    rfl
  obtain ⟨p, w0, h, o, nm, hd, ws, hs, ko, rfl, hp, hw, hh, ho, hm, inm, vn, vw, ri, l1000, q⟩ := h
  have hu := hu_of hr
  have hr1 : Room 1 _ := hr.mono (by decide)
  refine ⟨_, pss_cons (ps_if (PW.pt (pw_or (pt_not (pt_val (pe_callB call_isi (by rfl) mi (by decide +kernel) (pa_cons (pv 0) (pa_cons (pe_bltn (by rfl) mt (by decide +kernel) (show RelV (.ty "tuple") (Value.type "tuple") from rfl)) pa_nil))))) (pw_or1 (pt_cmpR op_ne (pe_callB call_len_seq (by rfl) mn PySem.boot_len (pa_cons (pv 0) pa_nil)) pe_int (nomark _))))) (pss_one (ps_ret pe_bl)) pss_nil)
    (pss_cons (ps_asg (pv 0) (pg_tup rfl (pgs_cons (pg_name (i := 3) scNt.nd rfl (Or.inl rfl)) (pgs_cons (pg_name (i := 4) scNt.nd rfl (Or.inl rfl)) (pgs_cons (pg_name (i := 5) scNt.nd rfl (Or.inl rfl)) pgs_nil)))))
    (pss_cons (ps_if (PW.pt (pw_or (pt_not (pt_val (pe_call N hr1 rfl mN kN bN .nil pass0 (pa_cons (pv 3) pa_nil)))) (pw_or1 (pt_cmp (pc_din hu (pv 3) (pv 2)))))) (pss_one (ps_ret pe_bl)) pss_nil)
    (pss_one (ps_ret (pe_and (pe_call G hr1 rfl mG kG bG .nil pass0 (pa_cons (pv 4) (pa_cons (pv 1) pa_nil))) (pe_one (pe_call L hr rfl mL kL bL .nil pass0 (pa_cons (pv 5) (pa_cons (pv 2) pa_nil))))))))), ?_⟩
  refine ⟨_, rfl, .ref p, .ty "tuple", .type "tuple", .type "tuple", true, rfl, .ty _, tyT hp, kitOk (by decide +kernel), _, rfl, iteF ?_⟩
  refine ⟨_, rfl, p, _, rfl, .inr hp, rfl, _, rfl, ?_⟩
  refine iteNS rfl ?_
  refine ⟨_, rfl, p, _, rfl, hp, rfl, _, _, rfl, _, _, rfl, _, _, rfl, rfl, ?_⟩
  refine ⟨_, rfl, nm, rfl, inm, fun H1 s1 => ⟨_, rfl, iteF ⟨_, rfl, _, rfl, o, _, rfl, DGet.k (k := Sum.inr nm) (s1 _ _ ho), _, rfl, ?_⟩⟩⟩
  rw [vn]
  refine iteF ⟨_, rfl, _, rfl, hd, h, rfl, .inr ⟨hs, s1.seq hh, hm⟩, _, rfl, iteT ⟨_, rfl, _, rfl, w0, o, ws, ko, rfl, sameT s1 hw, s1 _ _ ho, vw, ri, l1000, fun H2 s2 => q H2 (s1.trans s2)⟩⟩
end
end L2.K2


namespace L2.K2
open PySem L2 L2.Bv L2.Pc L2.Ts
abbrev sReady : Stmt := top 19
abbrev sPaper : Stmt := top 20
abbrev nPaper : List Str := ["value", "hands", "notes", "numbers", "whole", "writers", "at", "note", "name", "hand"]
theorem scRe : FnScope ["value", "hands", "owners", "name", "hand"] ["value", "hands", "owners"] (defScope sReady) := ⟨rfl, rfl, rfl, by decide +kernel, rfl, by decide +kernel, by decide +kernel⟩
theorem scPa : FnScope nPaper ["value", "hands", "notes"] (defScope sPaper) := ⟨rfl, rfl, rfl, by decide +kernel, rfl, by decide +kernel, by decide +kernel⟩
def spReady (K : PySem.W.Frag) : Sp := fun vs H Q _ => ∃ (r h o : Addr) (rs hs : List Str) (ko : List (Key × V)), vs = [.ref r, .ref h, .ref o] ∧ SqL K H r (rs.map V.str) ∧ SqL K H h (hs.map V.str) ∧ H o = some (.dK ko) ∧ rs.length = hs.length ∧ hs.length ≤ 6 ∧
  (∀ (i : Nat) (z : Str), rs[i]? = some z → ∃ y, hs[i]? = some y ∧ valV ko (.inr z) = some (.str y)) ∧ ∀ H', Same H H' → Q (.bl true) H'
/-- what a paper bears -/
structure PpOk (ns : List Nt) (hs ps : List Str) : Prop where
  ri : Rising ps
  kn : ∀ x ∈ ps, ∃ k, k < ns.length ∧ nameAt ns k = x
  cov : ∀ h ∈ hs, ∃ k, k < ns.length ∧ handAt ns k = h ∧ ∃ j, j < ns.length ∧ nameAt ns j ∈ ps ∧ Und ns k j
theorem Rising.nd {ps : List Str} (h : Rising ps) : ps.Nodup := h.imp fun {a b} lt e => by
  subst e
  exact List.lt_irrefl _ lt
theorem PpOk.len {ns : List Nt} {hs ps : List Str} (h : PpOk ns hs ps) : ps.length ≤ ns.length := by
  have q := nodup_sub ps ((List.range ns.length).map (nameAt ns)) h.ri.nd fun x hx => by
    obtain ⟨k, a, b⟩ := h.kn x hx
    exact List.mem_map.mpr ⟨k, List.mem_range.mpr a, b⟩
  rw [List.length_map, List.length_range] at q
  exact q
def spPaper (K : PySem.W.Frag) : Sp := fun vs H Q _ => ∃ (p h n : Addr) (ps hs : List Str) (xs : List V) (ns : List Nt), vs = [.ref p, .ref h, .ref n] ∧ SqT K H p (ps.map V.str) ∧ SqL K H h (hs.map V.str) ∧ SqL K H n xs ∧ NotesAt K H xs ns ∧ NtOk ns ∧ ns.length ≤ 40 ∧ hs.length ≤ 6 ∧ PpOk ns hs ps ∧
  ∀ H', Same H H' → Q (.bl true) H'
section
variable {P : Program} {w : World} {K : PySem.W.Frag} {mg : Str → Option Value} {base : Heap}
theorem ok_ready {f : Addr} {fd : FuncData} (F : Fun K "are_ready" "are_ready" sReady f fd) (S : Dn P w K mg base 1 "is_sequence" ["value"] (spSeq K)) (N : Dn P w K mg base 1 "is_known" ["value", "known"] (spKnown K)) (mn : mg "len" = none) (ma : mg "all" = none) (mz : mg "zip" = none) :
    FnOk P w K mg base CX0 2 f fd ["value", "hands", "owners"] (spReady K) := by
  obtain ⟨s0, sd, S, kS, bS, mS⟩ := S.ex
  obtain ⟨g, gd, G, kG, bG, mG⟩ := N.ex
  refine F.ok scRe (fun vs H Q E h => ?_) (fun cdv A outer s H vs Q E hr h => ?_)
  · obtain ⟨r, h, o, rs, hs, ko, rfl, _⟩ := h
    rfl
  obtain ⟨r, h, o, rs, hs, ko, rfl, hR, hH, hO, el, h6, hv, q⟩ := h
  have hu := hu_of hr
  refine ⟨_, pss_cons (ps_if (PW.pt (pw_or (pt_not (pt_val (pe_call S hr rfl mS kS bS .nil pass0 (pa_cons (pv 0) pa_nil)))) (pw_or1 (pt_cmpR op_ne (pe_callB call_len_seq (by rfl) mn PySem.boot_len (pa_cons (pv 0) pa_nil)) (pe_callB call_len_seq (by rfl) mn PySem.boot_len (pa_cons (pv 1) pa_nil)) (nomark _))))) (pss_one (ps_ret pe_bl)) pss_nil)
    (pss_one (ps_ret (pe_callB (cr_all rfl) (by rfl) ma (by decide +kernel) (pa_cons (pe_lc (own := [("name", 3), ("hand", 4)]) (g := gTup K 2 (gCons (gName 3) (gCons (gName 4) gNil))) (tt := tYes) rfl scRe.nd (RZ.pi_zipA (by rfl) mz (pa_cons (pv 0) (pa_cons (pv 1) pa_nil)))
      (blkOk_by (N := ["value", "hands", "owners", "name", "hand"]) (sc := defScope sReady) (by decide +kernel)) (fun _ _ _ _ _ => pg_tupK rfl rfl (pgs_cons (pg_name (i := 3) scRe.nd rfl (Or.inl rfl)) (pgs_cons (pg_name (i := 4) scRe.nd rfl (Or.inl rfl)) pgs_nil)) rfl) (fun _ _ _ _ _ => pts_nil)
      (fun _ _ _ _ _ => pe_and (pe_call G hr rfl mG kG bG .nil pass0 (pa_cons (pv 3) (pa_cons (pv 2) pa_nil))) (pe_one (pe_cmpR op_eq (pe_dget hu (pv 2) (pv 3) (fun _ _ => rfl)) (pv 4) (nomark _))))) pa_nil)))), ?_⟩
  have lr : (rs.map V.str).length = rs.length := List.length_map _
  have lh : (hs.map V.str).length = hs.length := List.length_map _
  refine ⟨_, rfl, r, _, rfl, hR, fun H1 s1 => ⟨_, rfl, iteF ?_⟩⟩
  refine ⟨_, rfl, r, _, rfl, .inl (s1.seq hR), _, rfl, h, _, rfl, .inl (s1.seq hH), rfl, _, rfl, iteNS (by rw [lr, lh, el]) ?_⟩
  refine ⟨_, rfl, _, rfl, r, h, _, _, rfl, .inl ⟨s1.seq hR, s1.seq hH, fun D hD => ?_⟩⟩
  refine lcF (walk_zip (K := K) (a := r) (b := h) (xs := rs.map V.str) (ys := hs.map V.str) (n := rs.length) (by rw [lr, lh]; omega)) (fun _ => true) (fun _ => V.bl true) hD (by omega) (fun H2 s => ⟨(s1.trans s).seq hR, (s1.trans s).seq hH⟩) ?_ ?_
  · rintro i x H2 _ KT KF hi s2 ⟨T, y1, y2, rfl, hT, rfl, yi, yx⟩ kt kf
    obtain ⟨u, hu0, rfl⟩ := strGet yi
    obtain ⟨v, hv0, rfl⟩ := strGet yx
    obtain ⟨y, hy, vo⟩ := hv i u hu0
    rw [hv0] at hy
    obtain rfl := Option.some.inj hy
    have sT := smNew (o := .tup [V.str u, V.str v]) hT
    have o3 := sT _ _ (s2 _ _ (s1 _ _ hO))
    refine ⟨T, _, rfl, SqT.of upd_same, rfl, _, _, rfl, _, _, rfl, rfl, rfl, yesT (iteT ⟨_, rfl, _, rfl, u, o, rfl, .inl ⟨ko, o3, by rw [vo]; rfl⟩, _, rfl, iteT ⟨_, rfl, _, rfl, o, .str v, rfl, (by have z := DGet.k (k := Sum.inr u) o3; rw [vo] at z; exact z), _, rfl, rfl, kt _ _ rfl sT (congrArg V.bl (decide_eq_true rfl))⟩⟩)⟩
  · intro H2 s2 e2
    obtain ⟨t1, t2⟩ := allTrue rs.length
    refine ⟨D, _, rfl, SqL.of (by rw [e2, t1]), ?_⟩
    rw [t2]
    exact q H2 (s1.trans s2)
theorem ok_paper {f : Addr} {fd : FuncData} (F : Fun K "is_paper" "is_paper" sPaper f fd) (L : Dn P w K mg base 2 "is_lot_of" ["value", "known"] (spLot K)) (J : Dn P w K mg base 1 "joined_mask" ["masks", "numbers"] (spJoined K)) (U : Dn P w K mg base 2 "under_masks" ["notes"] (spMasks K)) (me : mg "enumerate" = none) (ma : mg "all" = none) :
    FnOk P w K mg base CX0 3 f fd ["value", "hands", "notes"] (spPaper K) := by
  obtain ⟨l0, ld0, L, kL, bL, mL⟩ := L.ex
  obtain ⟨j0, jd0, J, kJ, bJ, mJ⟩ := J.ex
  obtain ⟨u0, ud0, U, kU, bU, mU⟩ := U.ex
  refine F.ok scPa (fun vs H Q E h => ?_) (fun cdv A outer s H vs Q E hr h => ?_)
  · obtain ⟨p, h, n, ps, hs, xs, ns, rfl, _⟩ := h
    rfl
  obtain ⟨p, h, n, ps, hs, xs, ns, rfl, hP, hH, hn, hN, ok, n40, h6, pp, q⟩ := h
  have hu := hu_of hr
  have hr1 : Room 1 _ := hr.mono (by decide)
  refine ⟨_, pss_cons (ps_set (i := 3) scPa.nd rfl (Or.inr rfl) (pe_dc (own := [("at", 6), ("note", 7)]) (g := gTup K 2 (gCons (gName 6) (gCons (gName 7) gNil))) (tt := tYes) rfl scPa.nd (pi_enum (by rfl) me (pa_cons (pv 2) pa_nil)) (blkOk_by (N := nPaper) (sc := defScope sPaper) (by decide +kernel))
        (fun _ _ _ _ _ => pg_tupK rfl rfl (pgs_cons (pg_name (i := 6) scPa.nd rfl (Or.inl rfl)) (pgs_cons (pg_name (i := 7) scPa.nd rfl (Or.inl rfl)) pgs_nil)) rfl) (fun _ _ _ _ _ => pts_nil) (fun _ _ _ _ _ => pe_ix (ixTupK (K := K) rfl) (pv 7) pe_int (fun _ _ => rfl)) (fun _ _ _ _ _ => pv 6)))
    (pss_cons (ps_if (pt_not (pt_val (pe_call L hr rfl mL kL bL .nil pass0 (pa_cons (pv 0) (pa_cons (pv 3) pa_nil))))) (pss_one (ps_ret pe_bl)) pss_nil)
    (pss_cons (ps_set (i := 4) scPa.nd rfl (Or.inr rfl) (pe_call J hr1 rfl mJ kJ bJ .nil pass0 (pa_cons (pe_call U hr rfl mU kU bU .nil pass0 (pa_cons (pv 2) pa_nil)) (pa_cons (pe_lc (own := [("name", 8)]) (g := gName 8) (tt := tYes) rfl scPa.nd (pi_tup (pv 0)) (blkOk_by (N := nPaper) (sc := defScope sPaper) (by decide +kernel))
        (fun _ _ _ _ _ => pg_name (i := 8) scPa.nd rfl (Or.inl rfl)) (fun _ _ _ _ _ => pts_nil) (fun _ _ _ _ _ => pe_dget hu (pv 3) (pv 8) (fun _ _ => rfl))) pa_nil))))
    (pss_cons (ps_set (i := 5) scPa.nd rfl (Or.inr rfl) (pe_lc (own := [("at", 6), ("note", 7)]) (g := gTup K 2 (gCons (gName 6) (gCons (gName 7) gNil))) (tt := _) rfl scPa.nd (pi_enum (by rfl) me (pa_cons (pv 2) pa_nil)) (blkOk_by (N := nPaper) (sc := defScope sPaper) (by decide +kernel))
        (fun _ _ _ _ _ => pg_tupK rfl rfl (pgs_cons (pg_name (i := 6) scPa.nd rfl (Or.inl rfl)) (pgs_cons (pg_name (i := 7) scPa.nd rfl (Or.inl rfl)) pgs_nil)) rfl) (fun _ _ _ _ _ => pts_one (ptTruthK (K := K) rfl (pe_op op_and (pe_op op_shr (pv 4) (pv 6)) pe_int) (by intro _; rfl))) (fun _ _ _ _ _ => pe_ix (ixTupK (K := K) rfl) (pv 7) pe_int (fun _ _ => rfl))))
    (pss_one (ps_ret (pe_callB (cr_all rfl) (by rfl) ma (by decide +kernel) (pa_cons (pe_lc (own := [("hand", 9)]) (g := gName 9) (tt := tYes) rfl scPa.nd (pi_list (pv 1)) (blkOk_by (N := nPaper) (sc := defScope sPaper) (by decide +kernel))
        (fun _ _ _ _ _ => pg_name (i := 9) scPa.nd rfl (Or.inl rfl)) (fun _ _ _ _ _ => pts_nil) (fun _ _ _ _ _ => pe_cmpR (inSeqK (K := K) rfl) (pv 9) (pv 5) (by rfl))) pa_nil))))))), ?_⟩
  have lx : xs.length = ns.length := hN.1
  have lps := pp.len
  have lp : (ps.map V.str).length = ps.length := List.length_map _
  have lh : (hs.map V.str).length = hs.length := List.length_map _
  refine ⟨_, rfl, n, _, rfl, hn, fun D hD => ?_⟩
  refine dcF (walk_enum (K := K) (a := n) (xs := xs)) (fun i => Sum.inr (nameAt ns i)) nV (fun i j hi hj e => ok.inj (by omega) (by omega) (Sum.inr.inj e)) hD (by omega) (fun H1 s => s.seq hn) ?_ ?_
  · rintro i x H1 _ KT KF hi s1 ⟨T, y1, y2, rfl, hT, rfl, yi, yx⟩ kt
    obtain rfl : V.int (i : Nat) = y1 := Option.some.inj yi
    obtain ⟨p1, w0, rfl, hp, hw⟩ := (hN.same s1).2 i y2 yx
    have sT := smNew (o := .tup [V.int (i : Nat), .ref p1]) hT
    exact ⟨T, _, rfl, SqT.of upd_same, rfl, _, _, rfl, _, _, rfl, rfl, rfl, yesT (iteT ⟨_, rfl, _, _, _, _, rfl, rfl, sameT sT hp, rfl, _, rfl, kt _ _ _ sT rfl rfl⟩)⟩
  · intro H1 kvs s1 e1 md
    have kn2 : ∀ y ∈ ps, valV kvs (.inr y) = some (nV (numOf ns y)) := fun y hy => by
      obtain ⟨k, lk, rfl⟩ := pp.kn y hy
      rw [numOf_name ok lk]
      exact md.2.1 k (by omega)
    refine ⟨_, rfl, _, rfl, p, D, ps, kvs, rfl, sameT s1 hP, e1, fun y hy => by rw [kn2 y hy]; rfl, pp.ri, by omega, fun H2 s2 => ⟨_, rfl, iteF ?_⟩⟩
    have s12 := s1.trans s2
    refine ⟨_, rfl, n, xs, ns, rfl, .inl (s12.seq hn), hN.same s12, ok, n40, fun pm ms H3 s3 hpm e3 mk => ?_⟩
    have s13 := s12.trans s3
    refine ⟨_, rfl, p, rfl, ⟨_, sameT s13 hP⟩, fun D2 hD2 => ?_⟩
    refine lcF (walk_tup (K := K) (a := p) (xs := ps.map V.str)) (fun _ => true) (fun q => nV (numOf ns (ps.getD q Str.empty))) hD2 (by omega) (fun H4 s => sameT (s13.trans s) hP) ?_ ?_
    · rintro j x H4 _ KT KF hj s4 ⟨rfl, hx⟩ kt kf
      obtain ⟨z, hz, rfl⟩ := strGet hx
      have ez : ps.getD j Str.empty = z := by rw [List.getD_eq_getElem?_getD, hz]; rfl
      exact ⟨rfl, yesT (iteT ⟨_, rfl, _, rfl, D, nV (numOf ns z), rfl, (by have t := DGet.k (k := Sum.inr z) (s4 _ _ (s3 _ _ (s2 _ _ e1))); rw [kn2 z (List.mem_of_getElem? hz)] at t; exact t), kt _ _ rfl (Same.refl _) (by rw [ez])⟩)⟩
    · intro H4 s4 e4
      rw [lp, idx_list (fun x => nV (numOf ns x)) Str.empty ps] at e4
      have e4' : H4 D2 = some (.lst ((ps.map (numOf ns)).map nV)) := by
        rw [e4, List.map_map]
        rfl
      have s14 := s13.trans s4
      refine ⟨pm, D2, ms, ps.map (numOf ns), rfl, .inr (SqT.of (s4 _ _ e3)), SqL.of e4', fun j hj => ?_, ?_⟩
      · obtain ⟨y, hy, rfl⟩ := List.mem_map.mp hj
        obtain ⟨k, lk, rfl⟩ := pp.kn y hy
        rw [numOf_name ok lk, mk.1]
        exact lk
      · refine ⟨_, rfl, n, _, rfl, s14.seq hn, fun D3 hD3 => ?_⟩
        refine lcF (walk_enum (K := K) (a := n) (xs := xs)) (fun k => (joinM ms (ps.map (numOf ns))).testBit k) (fun k => V.str (handAt ns k)) hD3 (by omega) (fun H5 s => (s14.trans s).seq hn) ?_ ?_
        · rintro i x H5 _ KT KF hi s5 ⟨T, y1, y2, rfl, hT, rfl, yi, yx⟩ kt kf
          obtain rfl : V.int (i : Nat) = y1 := Option.some.inj yi
          obtain ⟨p1, w0, rfl, hp, hw⟩ := (hN.same (s14.trans s5)).2 i y2 yx
          have sT := smNew (o := .tup [V.int (i : Nat), .ref p1]) hT
          refine ⟨T, _, rfl, SqT.of upd_same, rfl, _, _, rfl, _, _, rfl, rfl, rfl, _, rfl, _, rfl, _, _, rfl, rfl, by omega, _, _, rfl, rfl, (joinM ms (ps.map (numOf ns))).testBit i, ?_, ?_⟩
          · show (joinM ms (ps.map (numOf ns))).testBit i = (Builtin.bitAnd (((joinM ms (ps.map (numOf ns)) : Nat) : Int) / 2 ^ ((i : Nat) : Int).toNat) 1 != 0)
            rw [bitNat]
            cases (joinM ms (ps.map (numOf ns))).testBit i <;> rfl
          · refine ite2 (fun c1 => ⟨_, rfl, _, _, _, _, rfl, rfl, sameT sT hp, rfl, kt _ _ c1 sT rfl⟩) (fun c1 => kf _ (Bool.eq_false_iff.mpr c1) sT)
        · intro H5 s5 e5
          have s15 := s14.trans s5
          rw [lx] at e5
          have e5' : H5 D3 = some (.lst (((idx (fun k => (joinM ms (ps.map (numOf ns))).testBit k) ns.length).map (handAt ns)).map V.str)) := by
            rw [e5, List.map_map]
            rfl
          refine ⟨_, rfl, h, rfl, ⟨_, s15.seq hH⟩, fun D4 hD4 => ?_⟩
          refine lcF (walk_list (K := K) (a := h) (xs := hs.map V.str)) (fun _ => true) (fun _ => V.bl true) hD4 (by omega) (fun H6 s => (s15.trans s).seq hH) ?_ ?_
          · rintro j x H6 _ KT KF hj s6 ⟨rfl, hx⟩ kt kf
            obtain ⟨z, hz, rfl⟩ := strGet hx
            refine ⟨rfl, yesT (iteT ⟨_, rfl, _, rfl, D3, _, rfl, .inl (SqL.of (s6 _ _ e5')), rfl, flatStr _, kt _ _ rfl (Same.refl _) ?_⟩)⟩
            obtain ⟨k, lk, hk, j2, lj2, pj, u⟩ := pp.cov z (List.mem_of_getElem? hz)
            have m : z ∈ (idx (fun k => (joinM ms (ps.map (numOf ns))).testBit k) ns.length).map (handAt ns) := by
              refine List.mem_map.mpr ⟨k, mem_idx.mpr ⟨lk, joinM_iff.mpr ⟨j2, List.mem_map.mpr ⟨_, pj, numOf_name ok lj2⟩, (mk.2 j2 lj2 k).mpr u⟩⟩, hk⟩
            have z2 := inStr z ((idx (fun k => (joinM ms (ps.map (numOf ns))).testBit k) ns.length).map (handAt ns))
            rw [decide_eq_true m] at z2
            exact congrArg V.bl z2
          · intro H6 s6 e6
            obtain ⟨t1, t2⟩ := allTrue (hs.map V.str).length
            refine ⟨D4, _, rfl, SqL.of (by rw [e6, t1]), ?_⟩
            rw [t2]
            exact q H6 (s15.trans s6)
end
end L2.K2


namespace L2.K2
open PySem L2 L2.Bv L2.Pc L2.Ts
/-- the parts of a pact, as they may be -/
structure PkOk (hs : List Str) (ns : List Nt) (rs ps : List Str) : Prop where
  hd : HdOk hs
  nt : NtOk ns
  two : 2 ≤ ns.length
  forty : ns.length ≤ 40
  nms : ∀ i, i < ns.length → IsNm (nameAt ns i)
  hin : ∀ i, i < ns.length → handAt ns i ∈ hs
  ris : ∀ i, i < ns.length → Rising (waitAt ns i)
  rl : rs.length = hs.length
  rd : ∀ (i : Nat) (z : Str), rs[i]? = some z → ∃ k, k < ns.length ∧ nameAt ns k = z ∧ hs[i]? = some (handAt ns k)
  pp : PpOk ns hs ps
abbrev sNeed : Stmt := top 28
abbrev nNeed : List Str := ["hands", "notes", "ready", "paper", "owners", "at", "note"]
theorem scNe : FnScope nNeed ["hands", "notes", "ready", "paper"] (defScope sNeed) := ⟨rfl, rfl, rfl, by decide +kernel, rfl, by decide +kernel, by decide +kernel⟩
/-- the parts in the heap -/
structure PartsAt (K : PySem.W.Frag) (H : Hp) (h n r p : Addr) (hs : List Str) (xs : List V) (ns : List Nt) (rs ps : List Str) : Prop where
  h : SqL K H h (hs.map V.str)
  n : SqL K H n xs
  nt : NotesAt K H xs ns
  r : SqL K H r (rs.map V.str)
  p : SqT K H p (ps.map V.str)
theorem PartsAt.same {K : PySem.W.Frag} {H H' : Hp} {h n r p : Addr} {hs : List Str} {xs : List V} {ns : List Nt} {rs ps : List Str} (a : PartsAt K H h n r p hs xs ns rs ps) (s : Same H H') : PartsAt K H' h n r p hs xs ns rs ps :=
  ⟨s.seq a.h, s.seq a.n, a.nt.same s, s.seq a.r, sameT s a.p⟩
def spNeed (K : PySem.W.Frag) : Sp := fun vs H Q _ => ∃ (h n r p : Addr) (hs : List Str) (xs : List V) (ns : List Nt) (rs ps : List Str), vs = [.ref h, .ref n, .ref r, .ref p] ∧ PartsAt K H h n r p hs xs ns rs ps ∧ PkOk hs ns rs ps ∧ ∀ H', Same H H' → Q .non H'
section
variable {P : Program} {w : World} {K : PySem.W.Frag} {mg : Str → Option Value} {base : Heap}
theorem ok_need {f : Addr} {fd : FuncData} (F : Fun K "_need_parts" "_need_parts" sNeed f fd) (Ha : Dn P w K mg base 2 "are_hands" ["value"] (spHands K)) (S : Dn P w K mg base 1 "is_sequence" ["value"] (spSeq K)) (N : Dn P w K mg base 3 "is_note" ["value", "hands", "owners"] (spNote K))
    (R : Dn P w K mg base 2 "are_ready" ["value", "hands", "owners"] (spReady K)) (Pa : Dn P w K mg base 3 "is_paper" ["value", "hands", "notes"] (spPaper K)) (me : mg "enumerate" = none) (mn : mg "len" = none) (mF : ∃ t, mg "FEWEST_NOTES" = some (.int 2 t)) (mM : ∃ t, mg "MOST_NOTES" = some (.int 40 t)) :
    FnOk P w K mg base CX0 4 f fd ["hands", "notes", "ready", "paper"] (spNeed K) := by
  obtain ⟨h0, hd0, Ha, kH, bH, mH⟩ := Ha.ex
  obtain ⟨s0, sd0, S, kS, bS, mS⟩ := S.ex
  obtain ⟨n0, nd0, N, kN, bN, mN⟩ := N.ex
  obtain ⟨r0, rd0, R, kR, bR, mR⟩ := R.ex
  obtain ⟨p0, pd0, Pa, kP, bP, mP⟩ := Pa.ex
  obtain ⟨tF, mF⟩ := mF
  obtain ⟨tM, mM⟩ := mM
  refine F.ok scNe (fun vs H Q E h => ?_) (fun cdv A outer s H vs Q E hr h => ?_)
  · obtain ⟨h, n, r, p, hs, xs, ns, rs, ps, rfl, _⟩ := h
    rfl
  obtain ⟨h, n, r, p, hs, xs, ns, rs, ps, rfl, pa, ok, q⟩ := h
  have hu := hu_of hr
  have hr1 : Room 1 _ := hr.mono (by decide)
  have hr2 : Room 2 _ := hr.mono (by decide)
  refine ⟨_, pss_cons (ps_if (pt_not (pt_val (pe_call Ha hr2 rfl mH kH bH .nil pass0 (pa_cons (pv 0) pa_nil)))) (pss_one ps_never) pss_nil)
    (pss_cons (ps_if (PW.pt (pw_or (pt_not (pt_val (pe_call S hr1 rfl mS kS bS .nil pass0 (pa_cons (pv 1) pa_nil)))) (pw_or1 (pt_not (pt_chain op_le op_le (pe_glob (v := .int 2) rfl mF ⟨_, rfl⟩) (pe_callB call_len_seq (by rfl) mn PySem.boot_len (pa_cons (pv 1) pa_nil)) (pe_glob (v := .int 40) rfl mM ⟨_, rfl⟩)))))) (pss_one ps_never) pss_nil)
    (pss_cons (ps_set (i := 4) scNe.nd rfl (Or.inl rfl) pe_dnewK)
    (pss_cons (ps_for PassesOwn.never rfl (pi_enum (by rfl) me (pa_cons (pv 1) pa_nil)) (pg_tup rfl (pgs_cons (pg_name (i := 5) scNe.nd rfl (Or.inl rfl)) (pgs_cons (pg_name (i := 6) scNe.nd rfl (Or.inl rfl)) pgs_nil)))
      (pss_cons (ps_if (pt_not (pt_val (pe_call N hr rfl mN kN bN .nil pass0 (pa_cons (pv 6) (pa_cons (pv 0) (pa_cons (pv 4) pa_nil)))))) (pss_one ps_never) pss_nil)
      (pss_one (ps_dput hu (pv 4) (pe_ix ix_tup (pv 6) pe_int (fun _ _ => rfl)) (pe_ix ix_tup (pv 6) pe_int (fun _ _ => rfl)) rfl))))
    (pss_cons (ps_if (pt_not (pt_val (pe_call R hr2 rfl mR kR bR .nil pass0 (pa_cons (pv 2) (pa_cons (pv 0) (pa_cons (pv 4) pa_nil)))))) (pss_one ps_never) pss_nil)
    (pss_one (ps_if (pt_not (pt_val (pe_call Pa hr rfl mP kP bP .nil pass0 (pa_cons (pv 3) (pa_cons (pv 0) (pa_cons (pv 1) pa_nil)))))) (pss_one ps_never) pss_nil)))))), ?_⟩
  have lx : xs.length = ns.length := pa.nt.1
  have c2 := ok.two
  have c40 := ok.forty
  refine ⟨_, rfl, h, hs, rfl, pa.h, ok.hd, fun H1 s1 => ⟨_, rfl, iteF ?_⟩⟩
  refine ⟨_, rfl, n, xs, rfl, s1.seq pa.n, fun H2 s2 => ⟨_, rfl, iteF ?_⟩⟩
  have s12 := s1.trans s2
  refine ⟨_, rfl, n, _, rfl, .inl (s12.seq pa.n), _, _, rfl, rfl, _, rfl, ite2 (fun _ => ?_) (fun c => absurd (decide_eq_true (by omega)) c)⟩
  refine ⟨_, _, rfl, rfl, _, rfl, iteNS (by omega) ?_⟩
  intro o ho
  have oH : H o = none := s12.free ho
  have s3 := s12.trans (smNew (o := .dK []) ho)
  dsimp only [gName]
  refine ⟨_, rfl, n, _, rfl, s3.seq pa.n, ?_⟩
  refine for_it (walk_enum (K := K) (a := n) (xs := xs)) (fun i σ H3 => ∃ (t5 t6 : Option V) (ko : List (Key × V)), σ = [some (.ref h), some (.ref n), some (.ref r), some (.ref p), some (.ref o), t5, t6] ∧ Same H H3 ∧ H3 o = some (.dK ko) ∧ Made (fun i => Sum.inr (nameAt ns i)) (fun i => V.str (handAt ns i)) i ko) ?_ ?_ ?_ ?_
  · exact ⟨none, none, [], rfl, s3, upd_same, Made.nil _ _⟩
  · rintro i σ H3 _ ⟨_, _, _, _, s, _⟩
    exact s.seq pa.n
  · rintro i x σ H3 _ hi ⟨t5, t6, ko, rfl, s, eo, md⟩ ⟨T, y1, y2, rfl, hT, rfl, yi, yx⟩
    obtain rfl : V.int (i : Nat) = y1 := Option.some.inj yi
    obtain ⟨p1, w0, rfl, hp, hw⟩ := (pa.nt.same s).2 i y2 yx
    have sT := smNew (o := .tup [V.int (i : Nat), .ref p1]) hT
    have hi2 : i < ns.length := by omega
    refine ⟨T, _, rfl, SqT.of upd_same, rfl, _, _, rfl, _, _, rfl, rfl, ?_⟩
    refine ⟨_, rfl, _, rfl, _, rfl, p1, w0, h, o, nameAt ns i, handAt ns i, waitAt ns i, hs, ko, rfl, sameT sT hp, sameT sT hw, (s.trans sT).seq pa.h, sT _ _ eo, ok.hin i hi2, ok.nms i hi2, ?_, ?_, ok.ris i hi2, ?_, fun H4 s4 => ⟨_, rfl, iteF ?_⟩⟩
    · cases e : valV ko (.inr (nameAt ns i)) with
      | none => rfl
      | some v =>
        obtain ⟨j, lj, ej⟩ := md.2.2 (.inr (nameAt ns i)) (by rw [e]; rfl)
        exact absurd (ok.nt.inj (by omega) hi2 (Sum.inr.inj ej)) (by omega)
    · intro x hx
      obtain ⟨k, lk, rfl⟩ := ok.nt.wt i hi2 x hx
      rw [md.2.1 k lk]
      rfl
    · have z := ok.nt.wlen hi2
      omega
    · have sT4 := sT.trans s4
      have hp4 := sameT sT4 hp
      refine ⟨_, rfl, _, _, _, _, rfl, rfl, hp4, rfl, _, rfl, _, rfl, _, _, _, _, rfl, rfl, hp4, rfl, o, _, rfl, DPut.k (kvs := ko) (k := Sum.inr (nameAt ns i)) (sT4 _ _ eo) (small1000 (by have := md.1; omega)), ?_⟩
      refine ⟨_, _, _, rfl, fun u v e => ?_, upd_same, md.put fun j lj c => absurd (ok.nt.inj (by omega) hi2 (Sum.inr.inj c)) (by omega)⟩
      rw [upd_ne (ne_of_none e oH)]
      exact sT4 _ _ (s _ _ e)
  · rintro σ H3 ⟨t5, t6, ko, rfl, s, eo, md⟩
    rw [lx] at md
    refine ⟨_, rfl, _, rfl, _, rfl, r, h, o, rs, hs, ko, rfl, s.seq pa.r, s.seq pa.h, eo, ok.rl, ok.hd.six, fun i z hz => ?_, fun H4 s4 => ⟨_, rfl, iteF ?_⟩⟩
    · obtain ⟨k, lk, rfl, e⟩ := ok.rd i z hz
      exact ⟨_, e, md.2.1 k lk⟩
    · have s5 := s.trans s4
      exact ⟨_, rfl, _, rfl, _, rfl, p, h, n, ps, hs, xs, ns, rfl, sameT s5 pa.p, s5.seq pa.h, s5.seq pa.n, pa.nt.same s5, ok.nt, c40, ok.hd.six, ok.pp, fun H5 s6 => ⟨_, rfl, iteF (q H5 (s5.trans s6))⟩⟩
end
end L2.K2


namespace L2.Ts
open PySem PySem.Spec PyProof.Rows L2
/-! ### sorted of a tuple of texts -/
section
variable {P : Program} {w : World} {A : Around} {E : Value → Shared → Prop} {s : Shared}
theorem gather_tup {l : Addr} {vs : List Value} {Q : List Value → Shared → Prop} (hl : s.heap.IsTuple l vs.toArray) (few : vs.length ≤ 1000)
    (hQ : ∀ h' : Heap, (∀ b o, s.heap.get? b = some o → h'.get? b = some o) → s.heap.objs.size ≤ h'.objs.size → Q vs { s with heap := h' }) : wpAny (model P w) A (collect (.ref l)) Q E s := by
  have lin : vs.length ≤ sizeLine := Nat.le_trans few (by decide)
  obtain ⟨o, e, c, n, d⟩ := id hl
  unfold collect
  refine wpAny_bind (wpAny_runValue (codeAny_builtin F.entry_proto_collect ?_))
  rw [Around.under_plainId F.plain_proto_collect _]
  show wpAny _ A.in1 (newList [] >>= fun l0 => again (.builtin "list.__iadd__" ⟨[l0, .ref l], []⟩)) _ _ s
  refine wpAny_bind (wpAny_newList (wpAny_pure ⟨plainId_quiet F.plain_list_iadd _, codeAny_builtin F.entry_list_iadd ?_⟩))
  rw [Around.under_plainId F.plain_list_iadd _]
  show wpAny _ A.in1 (Builtin.List.listExtendWith (.ref s.heap.objs.size) (.ref l) (.ref s.heap.objs.size)) _ _ { s with heap := s.heap.push (seqObj "list" #[] 0) }
  unfold Builtin.List.listExtendWith
  have e1 : (s.heap.push (seqObj "list" #[] 0)).get? l = some o := Heap.get?_push_of_some _ e
  refine wpAny_bind (wpAny_typeOf (T := "tuple") ⟨o, e1, c⟩ ?_)
  have yes : (Value.type "tuple" == Value.type "tuple") = true := by rfl
  rw [if_pos (by rw [yes]; simp)]
  refine wpAny_bind (listItems_at e1 d (wpAny_bind (listItems_at (xs := #[]) (n := 0) (Heap.get?_push_size _ rfl) rfl ?_)))
  rw [if_neg (by simp)]
  refine wpAny_bind (listUpdate_at (xs := #[]) (n := 0) (Heap.get?_push_size _ rfl) rfl ?_ (Nat.zero_le _) (by show (#[] ++ vs.toArray).size ≤ sizeLine + 1; simp only [Array.size_append, List.size_toArray, List.length_nil]; omega))
  refine wpAny_pure ?_
  show wpAny (model P w) A (do let o ← load s.heap.objs.size; match o.data with | .seq xs _ => pure xs.toList | _ => unsupported "internal:collect") Q E { s with heap := (s.heap.push (seqObj "list" #[] 0)).update s.heap.objs.size (Obj.mapSeq (· ++ vs.toArray)) }
  refine wpAny_bind (wpAny_load (get?_update_seq (Heap.get?_push_size _ rfl) _) ?_)
  show wpAny _ _ (pure ((#[] : Array Value) ++ vs.toArray).toList) Q E _
  rw [show ((#[] : Array Value) ++ vs.toArray).toList = vs by simp]
  refine wpAny_pure (hQ _ (fun b u q => ?_) ?_)
  · rw [Heap.get?_update_ne _ _ _ _ (Nat.ne_of_lt (Heap.lt_size q))]
    exact Heap.get?_push_of_some _ q
  · rw [Heap.size_update, size_push']
    exact Nat.le_succ _
theorem sort_tup {a : Addr} {vs : List Value} {ys : List Str} {Q : Value → Shared → Prop} (hl : s.heap.IsTuple a vs.toArray) (hS : StrsAre vs ys) (h64 : vs.length < 64)
    (hQ : ∀ h' p (out : Array Value) (c : Nat) (zs : List Str), (∀ b o, s.heap.get? b = some o → h'.get? b = some o) → s.heap.objs.size ≤ p → h'.get? p = some (seqObj "list" out c) → StrsAre out.toList zs → zs.Perm ys → sortedS zs = true → Q (.ref p) { s with heap := h' }) :
    wpAny (model P w) A (call (.builtin "sorted") [.ref a]) Q E s := by
  refine Calls.call_function_entry kind_sorted plain_sorted entry_sorted (args_sorted1 _) ?_
  unfold Builtin.«sorted»
  refine wpAny_bind (m := checkCount "sorted" 1 1 _) (wpAny_pure (wpAny_bind (gather_tup (A := A.in1) hl (by omega) fun h1 k1 z1 => ?_)))
  refine wpAny_bind (wpAny_newList ?_ (by rw [sizeLine_eq]; omega))
  have hoL : (h1.push (seqObj "list" vs.toArray 0)).get? h1.objs.size = some (seqObj "list" vs.toArray 0) := Heap.get?_push_size _ rfl
  refine wpAny_bind (wpAny_holding (wpAny_call_entry slot_list_sort ⟨_, hoL, rfl⟩ entry_list_sort (list_sort_treeK strKind_oneLt hoL hS.keysOf (fun v₁ v₂ rest q => keyKind_strs (by rw [← q]; exact hS)) h64 fun st' hp hs => ⟨_, rfl, ?_⟩) (args_list_sort _)))
  obtain ⟨zs, c1, c2, c3⟩ := sorted_out_str hS hp hs
  obtain ⟨c, hc⟩ := sortedHeap_at (vs := vs) (out := (arrOf st').map (·.2)) hoL
  refine wpAny_pure ⟨_, rfl, hQ _ h1.objs.size _ c zs (fun b u q0 => ?_) z1 hc (by simpa using c1) c2 c3⟩
  have q1 := k1 b u q0
  have lt := Heap.lt_size q1
  show (sortedHeap (h1.push (seqObj "list" vs.toArray 0)) h1.objs.size vs _).get? b = some u
  rw [sortedHeap_old (Nat.ne_of_lt lt) (by rw [size_push']; exact Nat.lt_succ_of_lt lt)]
  exact Heap.get?_push_of_some _ q1
end
section
variable {X : Cx}
/-- sorted(t) -/
def rSortU2 (K : PySem.W.Frag) : List V → Hp → VK → Prop := fun vs H Q => ∃ (a : Addr) (ys : List Str), vs = [V.ref a] ∧ SqT K H a (ys.map V.str) ∧ ys.length < 64 ∧ ∀ (zs : List Str) (p : Addr), zs.Perm ys → sortedS zs = true → H p = none → Q (.ref p) (upd H p (.lst (zs.map V.str)))
theorem cr_sortTup : CallR X (.builtin "sorted") (rSortU2 X.K) := by
  intro pins s σ H vs us Q I r h
  obtain ⟨a, ys, rfl, ha, h64, q⟩ := h
  obtain ⟨its, rv, pt, hz⟩ := I.tuple ha
  have n := rv.length
  rw [List.length_map] at n
  rw [Vals.ref1 r]
  refine sort_tup (show s.heap.IsTuple a its.toArray from pt) rv.strs (by omega) fun h' p out c zs k hp hg hzs pm so => ?_
  have hlen : (zs.map V.str).length ≤ sizeLine := by
    rw [List.length_map, pm.length_eq, sizeLine_eq]
    omega
  have hn : H p = none := I.hok.fresh hp
  exact ⟨.ref p, upd H p (.lst (zs.map V.str)), I.laid (t' := s.toks) k hp ⟨hlen, out.toList, c, vals_of_strs hzs, hg⟩, rfl, q zs p pm so hn⟩
end
end L2.Ts


namespace L2.Bv
open PySem L2
section
variable {X : Cx} {K : PySem.W.Frag} {e : Expr} {te : TE} {f : Str} {pos : Pos}
theorem pe_fldK (hK : X.K = K) (he : PE X e te) (hb : attributeBase e f X.env (eval e X.env) = eval e X.env) : PE X (.Attribute e f pos) (L2.tFld K te f) := hK ▸ pe_fld he hb
theorem sumK (hK : X.K = K) (hc : X.calm = true) : CallR X (.builtin "sum") (rSum K) := hK ▸ cr_sum hc
end
end L2.Bv
namespace L2.K2
open PySem L2 L2.Bv L2.Pc L2.Ts
abbrev sInit : Stmt := inClass (top 27) 0
abbrev nInit : List Str := ["self", "hands", "notes", "ready", "paper", "note", "at", "name", "hand", "row"]
theorem scIn : FnScope nInit ["self", "hands", "notes", "ready", "paper"] (defScope sInit) := ⟨rfl, rfl, rfl, by decide +kernel, rfl, by decide +kernel, by decide +kernel⟩
theorem nodup_at {l : List Str} (nd : l.Nodup) {i j : Nat} (hi : i < l.length) (hj : j < l.length) (e : l.getD i Str.empty = l.getD j Str.empty) : i = j := by
  rw [List.getD_eq_getElem?_getD, List.getD_eq_getElem?_getD, List.getElem?_eq_getElem hi, List.getElem?_eq_getElem hj] at e
  have q := List.pairwise_iff_getElem.mp nd
  rcases Nat.lt_trichotomy i j with c | c | c
  · exact absurd e (q i j hi hj c)
  · exact c
  · exact absurd e.symm (q j i hj hi c)
/-- what is known of the class -/
structure PcK (K : PySem.W.Frag) (C : Addr) : Prop where
  cl : Cls K C
  a1 : NoAttr K C "hands"
  a2 : NoAttr K C "notes"
  a3 : NoAttr K C "ready"
  a4 : NoAttr K C "paper"
  a5 : NoAttr K C "names"
  a6 : NoAttr K C "note_numbers"
  a7 : NoAttr K C "hand_numbers"
  a8 : NoAttr K C "rows"
  a9 : NoAttr K C "row_masks"
  a10 : NoAttr K C "unders"
  a11 : NoAttr K C "nexts"
  a12 : NoAttr K C "whole"
  a13 : NoAttr K C "by_name"
/-- just this place -/
def ox (x : Addr) : Addr → Prop := fun y => y = x
def notIns : HO → Prop
  | .ins _ _ _ => False
  | _ => True
/-- all but instances stays -/
def Ki (H H' : Hp) : Prop := ∀ y o, notIns o → H y = some o → H' y = some o
theorem Ki.of {H H' : Hp} (s : Same H H') : Ki H H' := fun y o _ e => s y o e
theorem Ki.trans {H H1 H2 : Hp} (a : Ki H H1) (b : Ki H1 H2) : Ki H H2 := fun y o n e => b y o n (a y o n e)
theorem Ki.store {H : Hp} {x C dx : Addr} {fs : List (Str × V)} {o : HO} (e : H x = some (.ins C dx fs)) : Ki H (upd H x o) := fun y u n h => by
  have ne : y ≠ x := fun z => by
    rw [z, e] at h
    cases h
    exact n
  rw [upd_ne ne]
  exact h
theorem Ki.tp {H H' : Hp} {a : Addr} {ys : List V} (k : Ki H H') (h : H a = some (.tup ys)) : H' a = some (.tup ys) := k _ _ True.intro h
theorem Ki.fz {H H' : Hp} {a : Addr} {ys : List V} (k : Ki H H') (h : FzT H a ys) : FzT H' a ys := let ⟨o, dn, cl, e⟩ := h; ⟨o, dn, cl, k _ _ True.intro e⟩
theorem Ki.dk {H H' : Hp} {a : Addr} {ys : List (Key × V)} (k : Ki H H') (h : H a = some (.dK ys)) : H' a = some (.dK ys) := k _ _ True.intro h
section
variable {K : PySem.W.Frag} {H H' : Hp} {a : Addr} {xs : List V}
theorem Ki.sqL (k : Ki H H') (h : SqL K H a xs) : SqL K H' a xs := by
  rcases h with (h | ⟨o, h⟩) | h
  · exact .inl (.inl (k _ _ True.intro h))
  · exact .inl (.inr ⟨o, k _ _ True.intro h⟩)
  · exact .inr h
theorem Ki.sqT (k : Ki H H') (h : SqT K H a xs) : SqT K H' a xs := by
  rcases h with (h | ⟨o, h⟩) | h
  · exact .inl (.inl (k _ _ True.intro h))
  · exact .inl (.inr ⟨o, k _ _ True.intro h⟩)
  · exact .inr h
theorem Ki.notes {ns : List Nt} (k : Ki H H') (h : NotesAt K H xs ns) : NotesAt K H' xs ns := ⟨h.1, fun i v hv => let ⟨p, q, a, b, c⟩ := h.2 i v hv; ⟨p, q, a, k.sqT b, k.sqT c⟩⟩
theorem Ki.tab {rows : List (List Nat)} (k : Ki H H') (h : TabAt K H xs rows) : TabAt K H' xs rows := ⟨h.1, fun i v hv => let ⟨p, a, b⟩ := h.2 i v hv; ⟨p, a, k.sqT b⟩⟩
end
/-- a stage of the making: all that was stands, the instance has these fields -/
structure Stg (C dx x : Addr) (H H' : Hp) (fs : List (Str × V)) : Prop where
  at_ : H' x = some (.ins C dx fs)
  ks : KS (ox x) H H'
  ki : Ki H H'
theorem Stg.same {C dx x : Addr} {H H1 H2 : Hp} {fs : List (Str × V)} (g : Stg C dx x H H1 fs) (s : Same H1 H2) : Stg C dx x H H2 fs := ⟨s _ _ g.at_, g.ks.trans (KS.of s), g.ki.trans (Ki.of s)⟩
theorem Stg.put {C dx x : Addr} {H H1 : Hp} {fs : List (Str × V)} (g : Stg C dx x H H1 fs) (f : Str) (v : V) : Stg C dx x H (upd H1 x (.ins C dx (putF f v fs))) (putF f v fs) := ⟨upd_same, g.ks.trans (KS.atS rfl), g.ki.trans (Ki.store g.at_)⟩
theorem Stg.free {C dx x : Addr} {H H1 : Hp} {fs : List (Str × V)} (g : Stg C dx x H H1 fs) {p : Addr} (h : H1 p = none) : H p = none := g.ks.free (fun y z => by rw [show y = x from z, g.at_]; exact fun q => nomatch q) h
theorem stNext {C dx x : Addr} {H H1 Hv : Hp} {fs : List (Str × V)} {f : Str} {v : V} {R : Hp → Prop} (g : Stg C dx x H H1 fs) (s : Same H1 Hv) (k : ∀ H2, Stg C dx x H H2 (putF f v fs) → Ki H1 H2 → Ki Hv H2 → R H2) : R (upd Hv x (.ins C dx (putF f v fs))) :=
  k _ ((g.same s).put f v) ((Ki.of s).trans (Ki.store (g.same s).at_)) (Ki.store (g.same s).at_)
/-- a tuple stands when a field is stored -/
theorem Stg.tup {C dx x : Addr} {H H1 : Hp} {fs gs : List (Str × V)} (g : Stg C dx x H H1 fs) {a : Addr} {o : HO} (n : notIns o) (h : H1 a = some o) : upd H1 x (.ins C dx gs) a = some o := Ki.store g.at_ a o n h
/-- a pact as it was made since H0 -/
def PactMade (C : Addr) (H0 H' : Hp) (x : Addr) (hs : List Str) (ns : List Nt) : Prop := ∃ (dx nn rw un nx nm : Addr) (fs : List (Str × V)) (kvs : List (Key × V)) (rv xv : List V) (ms : List Nat), H' x = some (.ins C dx fs) ∧
  (fs.lookup ("note_numbers" : Str) = some (.ref nn) ∧ H0 nn = none ∧ H' nn = some (.dK kvs) ∧ Made (fun i => Sum.inr (nameAt ns i)) nV ns.length kvs) ∧ (fs.lookup ("rows" : Str) = some (.ref rw) ∧ H0 rw = none ∧ H' rw = some (.tup rv) ∧ TabNew H0 H' rv (rowsOf ns hs)) ∧
  (fs.lookup ("unders" : Str) = some (.ref un) ∧ H0 un = none ∧ H' un = some (.tup (ms.map nV)) ∧ MaskOk ns ms ns.length) ∧ (fs.lookup ("nexts" : Str) = some (.ref nx) ∧ H0 nx = none ∧ H' nx = some (.tup xv) ∧ TabNew H0 H' xv (nextsOf (rowsOf ns hs) ms)) ∧
  (fs.lookup ("names" : Str) = some (.ref nm) ∧ H0 nm = none ∧ H' nm = some (.tup ((ns.map (·.1)).map V.str)))
/-- and all else that it keeps: what it was told with, the hands' numbers, the whole paper, the notes by name -/
def PactMore (C : Addr) (H0 H' : Hp) (x : Addr) (hs : List Str) (xs : List V) (ns : List Nt) (rs ps : List Str) (pA : Addr) : Prop := ∃ (dx t1 t2 t3 dh tb rw : Addr) (fs : List (Str × V)) (kvh : List (Key × V)) (wm : Nat) (zs : List Str) (rv : List V), H' x = some (.ins C dx fs) ∧
  (fs.lookup ("hands" : Str) = some (.ref t1) ∧ H0 t1 = none ∧ H' t1 = some (.tup (hs.map V.str))) ∧ (fs.lookup ("notes" : Str) = some (.ref t2) ∧ H0 t2 = none ∧ H' t2 = some (.tup xs)) ∧
  (fs.lookup ("ready" : Str) = some (.ref t3) ∧ H0 t3 = none ∧ H' t3 = some (.tup (rs.map V.str))) ∧ fs.lookup ("paper" : Str) = some (.ref pA) ∧
  (fs.lookup ("hand_numbers" : Str) = some (.ref dh) ∧ H0 dh = none ∧ H' dh = some (.dK kvh) ∧ Made (fun i => Sum.inr (hs.getD i Str.empty)) nV hs.length kvh) ∧
  (fs.lookup ("whole" : Str) = some (nV wm) ∧ ∀ i, wm.testBit i = true ↔ ∃ j, j < ns.length ∧ nameAt ns j ∈ ps ∧ Und ns i j) ∧
  (fs.lookup ("by_name" : Str) = some (.ref tb) ∧ H0 tb = none ∧ H' tb = some (.tup (zs.map fun z => nV (numOf ns z))) ∧ zs.Perm (ns.map (·.1)) ∧ PyProof.Rows.sortedS zs = true) ∧
  (fs.lookup ("rows" : Str) = some (.ref rw) ∧ H0 rw = none ∧ H' rw = some (.tup rv) ∧ TabNew H0 H' rv (rowsOf ns hs))
def spInit (K : PySem.W.Frag) (C : Addr) : Sp := fun vs H Q _ => ∃ (x dx h n r p : Addr) (hs : List Str) (xs : List V) (ns : List Nt) (rs ps : List Str), vs = [.ref x, .ref h, .ref n, .ref r, .ref p] ∧ H x = some (.ins C dx []) ∧ PartsAt K H h n r p hs xs ns rs ps ∧ PkOk hs ns rs ps ∧ ∀ H', KS (ox x) H H' → PactMade C H H' x hs ns → PactMore C H H' x hs xs ns rs ps p → Q .non H'
section
variable {P : Program} {w : World} {K : PySem.W.Frag} {mg : Str → Option Value} {base : Heap}
theorem ok_init {C : Addr} {f : Addr} {fd : FuncData} (T : PcK K C) (F : Fun K "__init__" "Pact.__init__" sInit f fd) (Nd : Dn P w K mg base 4 "_need_parts" ["hands", "notes", "ready", "paper"] (spNeed K)) (Rw : Dn P w K mg base 1 "rows_by_hand" ["hands", "notes"] (spRows K))
    (U : Dn P w K mg base 2 "under_masks" ["notes"] (spMasks K)) (Nx : Dn P w K mg base 2 "next_table" ["rows", "masks"] (spNexts K)) (J : Dn P w K mg base 1 "joined_mask" ["masks", "numbers"] (spJoined K)) (me : mg "enumerate" = none) (mt : mg "tuple" = none) (ms : mg "sum" = none) (mS : mg "sorted" = none) :
    FnOk P w K mg base CX0 5 f fd ["self", "hands", "notes", "ready", "paper"] (spInit K C) := by
  obtain ⟨d0, dd0, Nd, kD, bD, mD⟩ := Nd.ex
  obtain ⟨r0, rd0, Rw, kR, bR, mR⟩ := Rw.ex
  obtain ⟨u0, ud0, U, kU, bU, mU⟩ := U.ex
  obtain ⟨x0, xd0, Nx, kX, bX, mX⟩ := Nx.ex
  obtain ⟨j0, jd0, J, kJ, bJ, mJ⟩ := J.ex
  refine F.ok scIn (fun vs H Q E h => ?_) (fun cdv A outer s H vs Q E hr h => ?_)
  · obtain ⟨x, dx, h, n, r, p, hs, xs, ns, rs, ps, rfl, _⟩ := h
    rfl
  obtain ⟨x, dx, h, n, r, p, hs, xs, ns, rs, ps, rfl, hx, pa, ok, q⟩ := h
  have hu := hu_of hr
  have hr1 : Room 1 _ := hr.mono (by decide)
  have hr2 : Room 2 _ := hr.mono (by decide)
  refine ⟨_, pss_cons (ps_expr (pe_call Nd hr rfl mD kD bD .nil pass0 (pa_cons (pv 1) (pa_cons (pv 2) (pa_cons (pv 3) (pa_cons (pv 4) pa_nil))))))
    (pss_cons (ps_fld (pv 0) (pe_callTy call_tuple_of (by rfl) mt (by decide +kernel) (pa_cons (pv 1) pa_nil)) rfl)
    (pss_cons (ps_fld (pv 0) (pe_callTy call_tuple_of (by rfl) mt (by decide +kernel) (pa_cons (pv 2) pa_nil)) rfl)
    (pss_cons (ps_fld (pv 0) (pe_callTy call_tuple_of (by rfl) mt (by decide +kernel) (pa_cons (pv 3) pa_nil)) rfl)
    (pss_cons (ps_fld (pv 0) (pv 4) rfl)
    (pss_cons (ps_fld (pv 0) (pe_callTy call_tuple_of (by rfl) mt (by decide +kernel) (pa_cons (pe_lc (own := [("note", 5)]) (g := gName 5) (tt := tYes) rfl scIn.nd (pi_tup (pe_fld (pv 0) rfl)) (blkOk_by (N := nInit) (sc := defScope sInit) (by decide +kernel))
        (fun _ _ _ _ _ => pg_name (i := 5) scIn.nd rfl (Or.inl rfl)) (fun _ _ _ _ _ => pts_nil) (fun _ _ _ _ _ => pe_ix (ixTupK (K := K) rfl) (pv 5) pe_int (fun _ _ => rfl))) pa_nil)) rfl)
    (pss_cons (ps_fld (pv 0) (pe_dc (own := [("at", 6), ("name", 7)]) (g := gTup K 2 (gCons (gName 6) (gCons (gName 7) gNil))) (tt := tYes) rfl scIn.nd (pi_enumT (by rfl) me (pa_cons (pe_fld (pv 0) rfl) pa_nil)) (blkOk_by (N := nInit) (sc := defScope sInit) (by decide +kernel))
        (fun _ _ _ _ _ => pg_tupK rfl rfl (pgs_cons (pg_name (i := 6) scIn.nd rfl (Or.inl rfl)) (pgs_cons (pg_name (i := 7) scIn.nd rfl (Or.inl rfl)) pgs_nil)) rfl) (fun _ _ _ _ _ => pts_nil) (fun _ _ _ _ _ => pv 7) (fun _ _ _ _ _ => pv 6)) rfl)
    (pss_cons (ps_fld (pv 0) (pe_dc (own := [("at", 6), ("hand", 8)]) (g := gTup K 2 (gCons (gName 6) (gCons (gName 8) gNil))) (tt := tYes) rfl scIn.nd (pi_enumT (by rfl) me (pa_cons (pe_fld (pv 0) rfl) pa_nil)) (blkOk_by (N := nInit) (sc := defScope sInit) (by decide +kernel))
        (fun _ _ _ _ _ => pg_tupK rfl rfl (pgs_cons (pg_name (i := 6) scIn.nd rfl (Or.inl rfl)) (pgs_cons (pg_name (i := 8) scIn.nd rfl (Or.inl rfl)) pgs_nil)) rfl) (fun _ _ _ _ _ => pts_nil) (fun _ _ _ _ _ => pv 8) (fun _ _ _ _ _ => pv 6)) rfl)
    (pss_cons (ps_fld (pv 0) (pe_call Rw hr1 rfl mR kR bR .nil pass0 (pa_cons (pe_fld (pv 0) rfl) (pa_cons (pe_fld (pv 0) rfl) pa_nil))) rfl)
    (pss_cons (ps_fld (pv 0) (pe_callTy call_tuple_of (by rfl) mt (by decide +kernel) (pa_cons (pe_lc (own := [("row", 9)]) (g := gName 9) (tt := tYes) rfl scIn.nd (pi_tup (pe_fld (pv 0) rfl)) (blkOk_by (N := nInit) (sc := defScope sInit) (by decide +kernel))
        (fun _ _ _ _ _ => pg_name (i := 9) scIn.nd rfl (Or.inl rfl)) (fun _ _ _ _ _ => pts_nil) (fun _ _ _ _ _ => pe_callB (sumK (K := K) rfl rfl) (by rfl) ms (by decide +kernel) (pa_cons (pe_lc (own := [("at", 6)]) (g := gName 6) (tt := tYes) rfl scIn.nd (pi_tupK (K := K) rfl (pv 9)) (blkOk_by (N := nInit) (sc := relSc (defScope sInit) (lcSc (arg0 (asgOf sInit 9)))) (by decide +kernel))
          (fun _ _ _ _ _ => pg_name (i := 6) scIn.nd rfl (Or.inl rfl)) (fun _ _ _ _ _ => pts_nil) (fun _ _ _ _ _ => pe_op op_shl pe_int (pv 6))) pa_nil))) pa_nil)) rfl)
    (pss_cons (ps_fld (pv 0) (pe_call U hr2 rfl mU kU bU .nil pass0 (pa_cons (pe_fld (pv 0) rfl) pa_nil)) rfl)
    (pss_cons (ps_fld (pv 0) (pe_call Nx hr2 rfl mX kX bX .nil pass0 (pa_cons (pe_fld (pv 0) rfl) (pa_cons (pe_fld (pv 0) rfl) pa_nil))) rfl)
    (pss_cons (ps_fld (pv 0) (pe_call J hr1 rfl mJ kJ bJ .nil pass0 (pa_cons (pe_fld (pv 0) rfl) (pa_cons (pe_lc (own := [("name", 7)]) (g := gName 7) (tt := tYes) rfl scIn.nd (pi_tup (pe_fld (pv 0) rfl)) (blkOk_by (N := nInit) (sc := defScope sInit) (by decide +kernel))
        (fun _ _ _ _ _ => pg_name (i := 7) scIn.nd rfl (Or.inl rfl)) (fun _ _ _ _ _ => pts_nil) (fun _ _ _ _ _ => pe_dget hu (pe_fldK (K := K) rfl (pv 0) rfl) (pv 7) (fun _ _ => rfl))) pa_nil))) rfl)
    (pss_one (ps_fld (pv 0) (pe_callTy call_tuple_of (by rfl) mt (by decide +kernel) (pa_cons (pe_lc (own := [("name", 7)]) (g := gName 7) (tt := tYes) rfl scIn.nd (pi_list (pe_callB cr_sortTup (by rfl) mS (by decide +kernel) (pa_cons (pe_fld (pv 0) rfl) pa_nil))) (blkOk_by (N := nInit) (sc := defScope sInit) (by decide +kernel))
        (fun _ _ _ _ _ => pg_name (i := 7) scIn.nd rfl (Or.inl rfl)) (fun _ _ _ _ _ => pts_nil) (fun _ _ _ _ _ => pe_dget hu (pe_fldK (K := K) rfl (pv 0) rfl) (pv 7) (fun _ _ => rfl))) pa_nil)) rfl)))))))))))))), ?_⟩
  have lx : xs.length = ns.length := pa.nt.1
  have c40 := ok.forty
  have h6 := ok.hd.six
  have rl := ok.rl
  have lhs : (hs.map V.str).length = hs.length := List.length_map _
  refine ⟨_, rfl, _, rfl, _, rfl, _, rfl, h, n, r, p, hs, xs, ns, rs, ps, rfl, pa, ok, fun H1 s1 => ?_⟩
  have g1 : Stg C dx x H H1 [] := ⟨s1 _ _ hx, KS.of s1, Ki.of s1⟩
  -- self.hands
  refine ⟨_, rfl, h, _, rfl, .inl ⟨s1.seq pa.h, fun t1 n1 => ⟨_, rfl, x, C, dx, _, rfl, (g1.same (smNew n1)).at_, T.cl, T.a1, Nat.le_of_ble_eq_true rfl, ?_⟩⟩⟩
  refine stNext (R := fun H2 => Ends.nx _ _ H2) g1 (smNew n1) fun H2 g2 j2 w2 => ?_
  have u1 := w2.tp upd_same
  have t1e := w2.tp upd_same
  -- self.notes
  refine ⟨_, rfl, n, _, rfl, .inl ⟨g2.ki.sqL pa.n, fun t2 n2 => ⟨_, rfl, x, C, dx, _, rfl, (g2.same (smNew n2)).at_, T.cl, T.a2, Nat.le_of_ble_eq_true rfl, ?_⟩⟩⟩
  refine stNext (R := fun H2 => Ends.nx _ _ H2) g2 (smNew n2) fun H3 g3 j3 w3 => ?_
  have u1 := j3.tp u1
  have u2 := w3.tp upd_same
  have t2e := w3.tp upd_same
  have t1e := j3.tp t1e
  -- self.ready
  refine ⟨_, rfl, r, _, rfl, .inl ⟨g3.ki.sqL pa.r, fun t3 n3 => ⟨_, rfl, x, C, dx, _, rfl, (g3.same (smNew n3)).at_, T.cl, T.a3, Nat.le_of_ble_eq_true rfl, ?_⟩⟩⟩
  refine stNext (R := fun H2 => Ends.nx _ _ H2) g3 (smNew n3) fun H4 g4 j4 w4 => ?_
  have u1 := j4.tp u1
  have u2 := j4.tp u2
  have u3 := w4.tp upd_same
  -- self.paper
  refine ⟨_, rfl, _, rfl, x, C, dx, _, rfl, g4.at_, T.cl, T.a4, Nat.le_of_ble_eq_true rfl, ?_⟩
  refine stNext (R := fun H2 => Ends.nx _ _ H2) g4 (Same.refl _) fun H5 g5 j5 w5 => ?_
  have u1 := j5.tp u1
  have u2 := j5.tp u2
  have u3 := j5.tp u3
  have t2e := j5.tp (j4.tp t2e)
  have t1e := j5.tp (j4.tp t1e)
  -- self.names
  refine ⟨_, rfl, x, C, dx, _, _, rfl, g5.at_, T.cl, T.a2, rfl, t2, rfl, ⟨_, SqT.of t2e⟩, fun D5 nD5 => ?_⟩
  refine lcF (walk_tup (K := K) (a := t2) (xs := xs)) (fun _ => true) (fun i => V.str (nameAt ns i)) nD5 (by omega) (fun H' s => sameT s (SqT.of t2e)) ?_ ?_
  · rintro i y H' _ KT KF hi s ⟨rfl, hy⟩ kt kf
    obtain ⟨p1, w0, rfl, hp, hw⟩ := (g5.ki.notes pa.nt).2 i y hy
    exact ⟨rfl, yesT (iteT ⟨_, rfl, _, _, _, _, rfl, rfl, sameT s hp, rfl, kt _ _ rfl (Same.refl _) rfl⟩)⟩
  intro H6 s6 e6
  have enm : (idx (fun _ => true) xs.length).map (fun i => V.str (nameAt ns i)) = (ns.map (·.1)).map V.str := by
    rw [lx, idx_all, nameMap, List.map_map]
    rfl
  rw [enm] at e6
  refine ⟨_, _, rfl, .inl ⟨SqL.of e6, fun t5 n5 => ⟨_, rfl, x, C, dx, _, rfl, (g5.same (s6.trans (smNew n5))).at_, T.cl, T.a5, Nat.le_of_ble_eq_true rfl, ?_⟩⟩⟩
  refine stNext (R := fun H2 => Ends.nx _ _ H2) g5 (s6.trans (smNew n5)) fun H7 g7 j7 w7 => ?_
  have u1 := j7.tp u1
  have u2 := j7.tp u2
  have u3 := j7.tp u3
  have t5e := w7.tp upd_same
  have f5 : H t5 = none := g5.free (s6.free n5)
  have t2e := j7.tp t2e
  have t1e := j7.tp t1e
  have nmAt : ∀ (i : Nat) (z : Str), (ns.map (·.1))[i]? = some z → z = nameAt ns i := fun i z hz => by
    rw [nameMap, List.getElem?_map] at hz
    cases e : (List.range ns.length)[i]? with
    | none =>
      rw [e] at hz
      cases hz
    | some k =>
      rw [e] at hz
      have lt := (List.getElem?_eq_some_iff.mp e).1
      rw [List.length_range] at lt
      rw [List.getElem?_range lt] at e
      obtain rfl := Option.some.inj e
      exact (Option.some.inj hz).symm
  have lnm : ((ns.map (·.1)).map V.str).length = ns.length := by rw [List.length_map, List.length_map]
  -- self.note_numbers
  refine ⟨_, rfl, x, C, dx, _, _, rfl, g7.at_, T.cl, T.a5, rfl, t5, _, rfl, SqT.of t5e, fun D8 n8 => ?_⟩
  refine dcF (walk_enumT (K := K) (a := t5) (xs := (ns.map (·.1)).map V.str)) (fun i => Sum.inr (nameAt ns i)) nV (fun i j hi hj e => ok.nt.inj (by omega) (by omega) (Sum.inr.inj e)) n8 (by omega) (fun H' s => sameT s (SqT.of t5e)) ?_ ?_
  · rintro i y H' _ KT KF hi s ⟨T0, y1, y2, rfl, hT, rfl, yi, yx⟩ kt
    obtain rfl : V.int (i : Nat) = y1 := Option.some.inj yi
    obtain ⟨z, hz, rfl⟩ := strGet yx
    exact ⟨T0, _, rfl, SqT.of upd_same, rfl, _, _, rfl, _, _, rfl, rfl, rfl, yesT (iteT ⟨_, rfl, _, rfl, kt _ _ _ (smNew hT) (by rw [nmAt i z hz]; rfl) rfl⟩)⟩
  intro H8 kvs s8 e8 md8
  rw [lnm] at md8
  have f8 : H D8 = none := g7.free n8
  refine ⟨_, rfl, x, C, dx, _, rfl, (g7.same s8).at_, T.cl, T.a6, Nat.le_of_ble_eq_true rfl, ?_⟩
  refine stNext (R := fun H2 => Ends.nx _ _ H2) g7 s8 fun H9 g9 j9 w9 => ?_
  have u1 := j9.tp u1
  have u2 := j9.tp u2
  have u3 := j9.tp u3
  have d8e := w9.dk e8
  have t1e := j9.tp t1e
  have t2e := j9.tp t2e
  have t5e := j9.tp t5e
  -- self.hand_numbers
  refine ⟨_, rfl, x, C, dx, _, _, rfl, g9.at_, T.cl, T.a1, rfl, t1, _, rfl, SqT.of t1e, fun D10 n10 => ?_⟩
  refine dcF (walk_enumT (K := K) (a := t1) (xs := hs.map V.str)) (fun i => Sum.inr (hs.getD i Str.empty)) nV (fun i j hi hj e => ?_) n10 (by omega) (fun H' s => sameT s (SqT.of t1e)) ?_ ?_
  · exact nodup_at ok.hd.nd (by omega) (by omega) (Sum.inr.inj e)
  · rintro i y H' _ KT KF hi s ⟨T0, y1, y2, rfl, hT, rfl, yi, yx⟩ kt
    obtain rfl : V.int (i : Nat) = y1 := Option.some.inj yi
    obtain ⟨z, hz, rfl⟩ := strGet yx
    have ez : hs.getD i Str.empty = z := by rw [List.getD_eq_getElem?_getD, hz]; rfl
    exact ⟨T0, _, rfl, SqT.of upd_same, rfl, _, _, rfl, _, _, rfl, rfl, rfl, yesT (iteT ⟨_, rfl, _, rfl, kt _ _ _ (smNew hT) (by rw [ez]; rfl) rfl⟩)⟩
  intro H10 kvh s10 e10 md10
  refine ⟨_, rfl, x, C, dx, _, rfl, (g9.same s10).at_, T.cl, T.a7, Nat.le_of_ble_eq_true rfl, ?_⟩
  refine stNext (R := fun H2 => Ends.nx _ _ H2) g9 s10 fun H11 g11 j11 w11 => ?_
  have u1 := j11.tp u1
  have u2 := j11.tp u2
  have u3 := j11.tp u3
  have uh := w11.dk e10
  have d8e := j11.dk d8e
  have t1e := j11.tp t1e
  have t2e := j11.tp t2e
  have t5e := j11.tp t5e
  -- self.rows
  refine ⟨_, rfl, x, C, dx, _, _, rfl, g11.at_, T.cl, T.a1, rfl, _, rfl, x, C, dx, _, _, rfl, g11.at_, T.cl, T.a2, rfl, t1, t2, hs, xs, ns, rfl, SqT.of t1e, SqT.of t2e, g11.ki.notes pa.nt, c40, h6, fun rw rv H12 s12 n12 e12 tb12 => ?_⟩
  have f12 : H rw = none := g11.free n12
  refine ⟨_, rfl, x, C, dx, _, rfl, (g11.same s12).at_, T.cl, T.a8, Nat.le_of_ble_eq_true rfl, ?_⟩
  refine stNext (R := fun H2 => Ends.nx _ _ H2) g11 s12 fun H13 g13 j13 w13 => ?_
  have u1 := j13.tp u1
  have u2 := j13.tp u2
  have u3 := j13.tp u3
  have uh := j13.dk uh
  have rwe := w13.tp e12
  have d8e := j13.dk d8e
  have t2e := j13.tp t2e
  have t5e := j13.tp t5e
  have tb13 : TabNew H H13 rv (rowsOf ns hs) := ⟨tb12.1, fun i v hv => let ⟨p, a, b, c⟩ := tb12.2 i v hv; ⟨p, a, g11.free b, w13.fz c⟩⟩
  have lrv : rv.length = hs.length := by
    rw [tb12.1]
    exact List.length_map _
  have rowlt : ∀ i, ∀ k ∈ (rowsOf ns hs).getD i [], k < ns.length := fun i k hk => by
    rw [List.getD_eq_getElem?_getD] at hk
    cases e : (rowsOf ns hs)[i]? with
    | none =>
      rw [e] at hk
      cases hk
    | some row =>
      rw [e] at hk
      obtain ⟨h0, _, rfl⟩ := List.mem_map.mp (List.mem_of_getElem? e)
      exact (mem_idx.mp hk).1
  have rowlen : ∀ i, ((rowsOf ns hs).getD i []).length ≤ 40 := fun i => by
    rw [List.getD_eq_getElem?_getD]
    cases e : (rowsOf ns hs)[i]? with
    | none => exact Nat.zero_le _
    | some row =>
      obtain ⟨h0, _, rfl⟩ := List.mem_map.mp (List.mem_of_getElem? e)
      exact Nat.le_trans (idx_len _ _) c40
  -- self.row_masks
  refine ⟨_, rfl, x, C, dx, _, _, rfl, g13.at_, T.cl, T.a8, rfl, rw, rfl, ⟨_, SqT.of rwe⟩, fun D14 n14 => ?_⟩
  refine lcG (walk_tup (K := K) (a := rw) (xs := rv)) noS (fun _ => True) (fun _ => true) (fun _ _ _ => True) n14 Al.empty (fun _ _ _ _ => trivial) trivial (by omega) (fun H' k => sameT k.same (SqT.of rwe)) ?_ ?_
  · rintro i y H' _ KT KF hi k14 _ ⟨acc, eD⟩ ⟨rfl, hy⟩ kt kf
    obtain ⟨p1, rfl, -, hp⟩ := tb13.2 i y hy
    have hp2 := hp.same k14.same
    refine ⟨rfl, yesT (iteT ⟨_, rfl, p1, rfl, ⟨_, hp2.sq⟩, fun D2 n2 => ?_⟩)⟩
    have lw := rowlen i
    have lm : (((rowsOf ns hs).getD i []).map nV).length = ((rowsOf ns hs).getD i []).length := List.length_map _
    refine lcF (walk_tup (K := K) (a := p1) (xs := ((rowsOf ns hs).getD i []).map nV)) (fun _ => true) (fun q => V.int (1 * 2 ^ (((((rowsOf ns hs).getD i []).getD q 0 : Nat) : Int)).toNat)) n2 (by omega) (fun H' s => sameT s hp2.sq) ?_ ?_
    · rintro j y2 H' _ KT2 KF2 hj s2 ⟨rfl, hy2⟩ kt2 kf2
      obtain ⟨z, hz, rfl⟩ := natGet hy2
      have lz := rowlt i z (List.mem_of_getElem? hz)
      have ez : ((rowsOf ns hs).getD i []).getD j 0 = z := by rw [List.getD_eq_getElem?_getD, hz]; rfl
      exact ⟨rfl, yesT (iteT ⟨_, rfl, _, _, rfl, rfl, ⟨by omega, by omega, by decide⟩, kt2 _ _ rfl (Same.refl _) (by rw [ez])⟩)⟩
    · intro H2' s2 e2
      rw [lm] at e2
      have e2' : H2' D2 = some (.lst (((idx (fun _ => true) ((rowsOf ns hs).getD i []).length).map fun q => (1 : Int) * 2 ^ (((((rowsOf ns hs).getD i []).getD q 0 : Nat) : Int)).toNat).map V.int)) := by
        rw [e2, List.map_map]
        rfl
      exact ⟨D2, _, rfl, SqL.of e2', kt _ _ rfl (KS.of s2) trivial (St'.pure trivial)⟩
  intro H14 acc k14 _ e14 _
  have s14 := k14.same
  refine ⟨_, _, rfl, .inl ⟨SqL.of e14, fun t14 m14 => ⟨_, rfl, x, C, dx, _, rfl, (g13.same (s14.trans (smNew m14))).at_, T.cl, T.a9, Nat.le_of_ble_eq_true rfl, ?_⟩⟩⟩
  refine stNext (R := fun H2 => Ends.nx _ _ H2) g13 (s14.trans (smNew m14)) fun H15 g15 j15 w15 => ?_
  have u1 := j15.tp u1
  have u2 := j15.tp u2
  have u3 := j15.tp u3
  have uh := j15.dk uh
  have rwe := j15.tp rwe
  have d8e := j15.dk d8e
  have t2e := j15.tp t2e
  have t5e := j15.tp t5e
  have tb15 : TabNew H H15 rv (rowsOf ns hs) := ⟨tb13.1, fun i v hv => let ⟨p, a, b, c⟩ := tb13.2 i v hv; ⟨p, a, b, j15.fz c⟩⟩
  -- self.unders
  refine ⟨_, rfl, x, C, dx, _, _, rfl, g15.at_, T.cl, T.a2, rfl, t2, xs, ns, rfl, .inr (SqT.of t2e), g15.ki.notes pa.nt, ok.nt, c40, fun un ms H16 s16 n16 e16 mk16 => ?_⟩
  have f16 : H un = none := g15.free n16
  refine ⟨_, rfl, x, C, dx, _, rfl, (g15.same s16).at_, T.cl, T.a10, Nat.le_of_ble_eq_true rfl, ?_⟩
  refine stNext (R := fun H2 => Ends.nx _ _ H2) g15 s16 fun H17 g17 j17 w17 => ?_
  have u1 := j17.tp u1
  have u2 := j17.tp u2
  have u3 := j17.tp u3
  have uh := j17.dk uh
  have une := w17.tp e16
  have rwe := j17.tp rwe
  have d8e := j17.dk d8e
  have t5e := j17.tp t5e
  have tb17 : TabNew H H17 rv (rowsOf ns hs) := ⟨tb15.1, fun i v hv => let ⟨p, a, b, c⟩ := tb15.2 i v hv; ⟨p, a, b, j17.fz c⟩⟩
  have lms := mk16.1
  -- self.nexts
  refine ⟨_, rfl, x, C, dx, _, _, rfl, g17.at_, T.cl, T.a8, rfl, _, rfl, x, C, dx, _, _, rfl, g17.at_, T.cl, T.a10, rfl, rw, un, rv, rowsOf ns hs, ms, rfl, SqT.of rwe, ⟨tb17.1, fun i v hv => let ⟨p, a, b, c⟩ := tb17.2 i v hv; ⟨p, a, c.sq⟩⟩, SqT.of une, fun row hrow => ?_, ?_, by omega, fun nx xv H18 s18 n18 e18 tb18 => ?_⟩
  · obtain ⟨h0, _, rfl⟩ := List.mem_map.mp hrow
    have z := idx_len (own ns h0) ns.length
    exact ⟨by omega, fun k hk => by rw [lms]; exact (mem_idx.mp hk).1⟩
  · have z : (rowsOf ns hs).length = hs.length := List.length_map _
    omega
  have f18 : H nx = none := g17.free n18
  refine ⟨_, rfl, x, C, dx, _, rfl, (g17.same s18).at_, T.cl, T.a11, Nat.le_of_ble_eq_true rfl, ?_⟩
  refine stNext (R := fun H2 => Ends.nx _ _ H2) g17 s18 fun H19 g19 j19 w19 => ?_
  have u1 := j19.tp u1
  have u2 := j19.tp u2
  have u3 := j19.tp u3
  have uh := j19.dk uh
  have nxe := w19.tp e18
  have une := j19.tp une
  have rwe := j19.tp rwe
  have d8e := j19.dk d8e
  have t5e := j19.tp t5e
  have tb19 : TabNew H H19 rv (rowsOf ns hs) := ⟨tb17.1, fun i v hv => let ⟨p, a, b, c⟩ := tb17.2 i v hv; ⟨p, a, b, j19.fz c⟩⟩
  have tx19 : TabNew H H19 xv (nextsOf (rowsOf ns hs) ms) := ⟨tb18.1, fun i v hv => let ⟨p, a, b, c⟩ := tb18.2 i v hv; ⟨p, a, g17.free b, w19.fz c⟩⟩
  have lps := ok.pp.len
  have lp : (ps.map V.str).length = ps.length := List.length_map _
  have kn2 : ∀ y ∈ ps, valV kvs (.inr y) = some (nV (numOf ns y)) := fun y hy => by
    obtain ⟨k, lk, rfl⟩ := ok.pp.kn y hy
    rw [numOf_name ok.nt lk]
    exact md8.2.1 k lk
  -- self.whole
  refine ⟨_, rfl, x, C, dx, _, _, rfl, g19.at_, T.cl, T.a10, rfl, _, rfl, x, C, dx, _, _, rfl, g19.at_, T.cl, T.a4, rfl, p, rfl, ⟨_, g19.ki.sqT pa.p⟩, fun D20 n20 => ?_⟩
  refine lcF (walk_tup (K := K) (a := p) (xs := ps.map V.str)) (fun _ => true) (fun q => nV (numOf ns (ps.getD q Str.empty))) n20 (by omega) (fun H' s => sameT s (g19.ki.sqT pa.p)) ?_ ?_
  · rintro j y H' _ KT KF hj s ⟨rfl, hy⟩ kt kf
    obtain ⟨z, hz, rfl⟩ := strGet hy
    have ez : ps.getD j Str.empty = z := by rw [List.getD_eq_getElem?_getD, hz]; rfl
    exact ⟨rfl, yesT (iteT ⟨_, rfl, x, C, dx, _, _, rfl, s _ _ g19.at_, T.cl, T.a6, rfl, _, rfl, D8, nV (numOf ns z), rfl, (by have t := DGet.k (k := Sum.inr z) (s _ _ d8e); rw [kn2 z (List.mem_of_getElem? hz)] at t; exact t), kt _ _ rfl (Same.refl _) (by rw [ez])⟩)⟩
  intro H20 s20 e20
  rw [lp, idx_list (fun x => nV (numOf ns x)) Str.empty ps] at e20
  have e20' : H20 D20 = some (.lst ((ps.map (numOf ns)).map nV)) := by
    rw [e20, List.map_map]
    rfl
  refine ⟨un, D20, ms, ps.map (numOf ns), rfl, .inr (SqT.of (s20 _ _ une)), SqL.of e20', fun j hj => ?_, ?_⟩
  · obtain ⟨y, hy, rfl⟩ := List.mem_map.mp hj
    obtain ⟨k, lk, rfl⟩ := ok.pp.kn y hy
    rw [numOf_name ok.nt lk, lms]
    exact lk
  refine ⟨_, rfl, x, C, dx, _, rfl, (g19.same s20).at_, T.cl, T.a12, Nat.le_of_ble_eq_true rfl, ?_⟩
  refine stNext (R := fun H2 => Ends.nx _ _ H2) g19 s20 fun H21 g21 j21 w21 => ?_
  have u1 := j21.tp u1
  have u2 := j21.tp u2
  have u3 := j21.tp u3
  have uh := j21.dk uh
  have nxe := j21.tp nxe
  have une := j21.tp une
  have rwe := j21.tp rwe
  have d8e := j21.dk d8e
  have t5e := j21.tp t5e
  have tb21 : TabNew H H21 rv (rowsOf ns hs) := ⟨tb19.1, fun i v hv => let ⟨p, a, b, c⟩ := tb19.2 i v hv; ⟨p, a, b, j21.fz c⟩⟩
  have tx21 : TabNew H H21 xv (nextsOf (rowsOf ns hs) ms) := ⟨tx19.1, fun i v hv => let ⟨p, a, b, c⟩ := tx19.2 i v hv; ⟨p, a, b, j21.fz c⟩⟩
  -- self.by_name
  refine ⟨_, rfl, x, C, dx, _, _, rfl, g21.at_, T.cl, T.a5, rfl, t5, ns.map (·.1), rfl, SqT.of t5e, by rw [List.length_map]; omega, fun zs q22 pm so n22 => ?_⟩
  have s22 := smNew (o := .lst (zs.map V.str)) n22
  refine ⟨q22, rfl, ⟨_, SqL.of upd_same⟩, fun D23 n23 => ?_⟩
  have lzs : (zs.map V.str).length = ns.length := by rw [List.length_map, pm.length_eq, List.length_map]
  refine lcF (walk_list (K := K) (a := q22) (xs := zs.map V.str)) (fun _ => true) (fun q => nV (numOf ns (zs.getD q Str.empty))) n23 (by omega) (fun H' s => SqL.of (s _ _ upd_same)) ?_ ?_
  · rintro j y H' _ KT KF hj s ⟨rfl, hy⟩ kt kf
    obtain ⟨z, hz, rfl⟩ := strGet hy
    have ez : zs.getD j Str.empty = z := by rw [List.getD_eq_getElem?_getD, hz]; rfl
    have zm := pm.mem_iff.mp (List.mem_of_getElem? hz)
    rw [nameMap] at zm
    obtain ⟨k, lk, rfl⟩ := List.mem_map.mp zm
    have lk := List.mem_range.mp lk
    have kv : valV kvs (.inr (nameAt ns k)) = some (nV (numOf ns (nameAt ns k))) := by
      rw [numOf_name ok.nt lk]
      exact md8.2.1 k lk
    exact ⟨rfl, yesT (iteT ⟨_, rfl, x, C, dx, _, _, rfl, (s22.trans s) _ _ g21.at_, T.cl, T.a6, rfl, _, rfl, D8, nV (numOf ns (nameAt ns k)), rfl, (by have t := DGet.k (k := Sum.inr (nameAt ns k)) ((s22.trans s) _ _ d8e); rw [kv] at t; exact t), kt _ _ rfl (Same.refl _) (by rw [ez])⟩)⟩
  intro H23 s23 e23
  have lzs2 : (zs.map V.str).length = zs.length := List.length_map _
  rw [lzs2, idx_list (fun z => nV (numOf ns z)) Str.empty zs] at e23
  have s223 := s22.trans s23
  refine ⟨_, _, rfl, .inl ⟨SqL.of e23, fun t24 n24 => ⟨_, rfl, x, C, dx, _, rfl, (g21.same (s223.trans (smNew n24))).at_, T.cl, T.a13, Nat.le_of_ble_eq_true rfl, ?_⟩⟩⟩
  refine stNext (R := fun H2 => Ends.nx _ _ H2) g21 (s223.trans (smNew n24)) fun H25 g25 j25 w25 => ?_
  have u1 := j25.tp u1
  have u2 := j25.tp u2
  have u3 := j25.tp u3
  have uh := j25.dk uh
  refine q H25 g25.ks ⟨dx, D8, rw, un, nx, t5, _, kvs, rv, xv, ms, g25.at_, ⟨rfl, f8, j25.dk d8e, md8⟩, ⟨rfl, f12, j25.tp rwe, tb21.1, fun i v hv => let ⟨p, a, b, c⟩ := tb21.2 i v hv; ⟨p, a, b, j25.fz c⟩⟩, ⟨rfl, f16, j25.tp une, mk16⟩, ⟨rfl, f18, j25.tp nxe, tx21.1, fun i v hv => let ⟨p, a, b, c⟩ := tx21.2 i v hv; ⟨p, a, b, j25.fz c⟩⟩, rfl, f5, j25.tp t5e⟩
    ⟨dx, t1, t2, t3, D10, t24, rw, _, kvh, joinM ms (ps.map (numOf ns)), zs, rv, g25.at_, ⟨rfl, s1.free n1, u1⟩, ⟨rfl, g2.free n2, u2⟩, ⟨rfl, g3.free n3, u3⟩, rfl, ⟨rfl, g9.free n10, uh, lhs ▸ md10⟩, ⟨rfl, fun i => ?_⟩, ⟨rfl, g21.free (s223.free n24), w25.tp upd_same, pm, so⟩, rfl, f12, j25.tp rwe, tb21.1, fun i v hv => let ⟨p, a, b, c⟩ := tb21.2 i v hv; ⟨p, a, b, j25.fz c⟩⟩
  rw [joinM_iff]
  constructor
  · rintro ⟨j, hj, b⟩
    obtain ⟨y, hy, rfl⟩ := List.mem_map.mp hj
    obtain ⟨k, lk, rfl⟩ := ok.pp.kn y hy
    rw [numOf_name ok.nt lk] at b
    exact ⟨k, lk, hy, (mk16.2 k lk i).mp b⟩
  · rintro ⟨j, lj, hj, u⟩
    exact ⟨j, List.mem_map.mpr ⟨_, hj, numOf_name ok.nt lj⟩, (mk16.2 j lj i).mpr u⟩
end
end L2.K2


namespace L2.Pc
open PySem L2 L2.Bv
theorem BelowOk.has {ns : List Nt} {bs : List Str} (ok : NtOk ns) {k j : Nat} (h : BelowOk ns j bs) (hk : k < ns.length) (hj : j < ns.length) : nameAt ns k ∈ bs ↔ Und ns k j := by
  rw [h.iff]
  constructor
  · rintro ⟨k', a, b, c⟩
    rw [← ok.inj (Nat.lt_of_le_of_lt a hj) hk b]
    exact c
  · exact fun u => ⟨k, u.le, rfl, u⟩
end L2.Pc
namespace L2.K2
open PySem L2 L2.Bv L2.Pc L2.Ts
theorem dpAllOf {K : PySem.W.Frag} {H : Hp} : ∀ {vs : List V} {ds : List PyData}, vs.length = ds.length → (∀ (i : Nat) (v : V) (d : PyData), vs[i]? = some v → ds[i]? = some d → Dp K H v d) → DpAll K H vs ds
  | [], [], _, _ => .nil
  | [], _ :: _, h, _ => by cases h
  | _ :: _, [], h, _ => by cases h
  | v :: vs, d :: ds, h, q => .cons (q 0 v d rfl rfl) (dpAllOf (Nat.succ.inj h) fun i v d a b => q (i + 1) v d a b)
theorem dpNats {K : PySem.W.Frag} {H : Hp} (ns : List Nat) : DpAll K H (ns.map nV) (ns.map fun (n : Nat) => PyData.int ((n : Nat) : Int)) := dpAllOf (by rw [List.length_map, List.length_map]) fun i v d a b => by
  obtain ⟨z, hz, rfl⟩ := natGet a
  rw [List.getElem?_map, hz] at b
  obtain rfl := Option.some.inj b
  exact .int _
/-- numbers as data -/
def dNats (ns : List Nat) : PyData := .tuple (ns.map fun (n : Nat) => PyData.int ((n : Nat) : Int))
def noH : Hp := fun _ => none
/-- a pact that stands -/
def PactAt (K : PySem.W.Frag) (C : Addr) (H : Hp) (x : Addr) (hs : List Str) (ns : List Nt) : Prop := ∃ (dx nn rw un nx nm : Addr) (fs : List (Str × V)) (kvs : List (Key × V)) (rv xv : List V) (ms : List Nat), H x = some (.ins C dx fs) ∧
  (fs.lookup ("note_numbers" : Str) = some (.ref nn) ∧ H nn = some (.dK kvs) ∧ Made (fun i => Sum.inr (nameAt ns i)) nV ns.length kvs) ∧ (fs.lookup ("rows" : Str) = some (.ref rw) ∧ SqT K H rw rv ∧ TabAt K H rv (rowsOf ns hs)) ∧
  (fs.lookup ("unders" : Str) = some (.ref un) ∧ SqT K H un (ms.map nV) ∧ MaskOk ns ms ns.length) ∧ (fs.lookup ("nexts" : Str) = some (.ref nx) ∧ SqT K H nx xv ∧ TabAt K H xv (nextsOf (rowsOf ns hs) ms)) ∧
  (fs.lookup ("names" : Str) = some (.ref nm) ∧ SqT K H nm ((ns.map (·.1)).map V.str))
theorem PactAt.same {K : PySem.W.Frag} {C x : Addr} {H H' : Hp} {hs : List Str} {ns : List Nt} (h : PactAt K C H x hs ns) (s : Same H H') : PactAt K C H' x hs ns := by
  obtain ⟨dx, nn, rw, un, nx, nm, fs, kvs, rv, xv, ms, e, ⟨a1, a2, a3⟩, ⟨b1, b2, b3⟩, ⟨c1, c2, c3⟩, ⟨d1, d2, d3⟩, e1, e2⟩ := h
  exact ⟨dx, nn, rw, un, nx, nm, fs, kvs, rv, xv, ms, s _ _ e, ⟨a1, s _ _ a2, a3⟩, ⟨b1, sameT s b2, b3.same s⟩, ⟨c1, sameT s c2, c3⟩, ⟨d1, sameT s d2, d3.same s⟩, e1, sameT s e2⟩
theorem PactMade.at {K : PySem.W.Frag} {C x : Addr} {H0 H' : Hp} {hs : List Str} {ns : List Nt} (h : PactMade C H0 H' x hs ns) (S : Addr → Prop) (al : ∀ y, S y → H0 y ≠ none) (nx0 : ¬ S x) : St' S H' (fun H2 => PactAt K C H2 x hs ns) := by
  obtain ⟨dx, nn, rw, un, nx, nm, fs, kvs, rv, xv, ms, e, ⟨a1, a0, a2, a3⟩, ⟨b1, b0, b2, b3⟩, ⟨c1, c0, c2, c3⟩, ⟨d1, d0, d2, d3⟩, e1, e0, e2⟩ := h
  intro H2 k
  have off : ∀ y, H0 y = none → ¬ S y := fun y z s => al y s z
  exact ⟨dx, nn, rw, un, nx, nm, fs, kvs, rv, xv, ms, k _ _ nx0 e, ⟨a1, k _ _ (off _ a0) a2, a3⟩, ⟨b1, SqT.of (k _ _ (off _ b0) b2), b3.1, fun i v hv => let ⟨p, p1, p2, p3⟩ := b3.2 i v hv; ⟨p, p1, let ⟨o, _, _, e3⟩ := p3; .inl (.inr ⟨o, k _ _ (off _ p2) e3⟩)⟩⟩,
    ⟨c1, SqT.of (k _ _ (off _ c0) c2), c3⟩, ⟨d1, SqT.of (k _ _ (off _ d0) d2), d3.1, fun i v hv => let ⟨p, p1, p2, p3⟩ := d3.2 i v hv; ⟨p, p1, let ⟨o, _, _, e3⟩ := p3; .inl (.inr ⟨o, k _ _ (off _ p2) e3⟩)⟩⟩, e1, SqT.of (k _ _ (off _ e0) e2)⟩
abbrev sNum : Stmt := top 30
abbrev sLies : Stmt := top 35
theorem scNum : FnScope ["pact", "note"] ["pact", "note"] (defScope sNum) := ⟨rfl, rfl, rfl, by decide +kernel, rfl, by decide +kernel, by decide +kernel⟩
theorem scLi : FnScope ["pact", "one", "other", "number"] ["pact", "one", "other"] (defScope sLies) := ⟨rfl, rfl, rfl, by decide +kernel, rfl, by decide +kernel, by decide +kernel⟩
def spNum (K : PySem.W.Frag) (C : Addr) : Sp := fun vs H Q _ => ∃ (x : Addr) (hs : List Str) (ns : List Nt) (i : Nat), vs = [.ref x, .str (nameAt ns i)] ∧ PactAt K C H x hs ns ∧ i < ns.length ∧ Q (nV i) H
def spLies (K : PySem.W.Frag) (C : Addr) : Sp := fun vs H Q _ => ∃ (x : Addr) (hs : List Str) (ns : List Nt) (i j : Nat), vs = [.ref x, .str (nameAt ns i), .str (nameAt ns j)] ∧ PactAt K C H x hs ns ∧ i < ns.length ∧ j < ns.length ∧ Q (.bl (und ns i j)) H
theorem findIdx_congr0 {α : Type} {p q : α → Bool} : ∀ {l : List α}, (∀ x ∈ l, p x = q x) → l.findIdx p = l.findIdx q
  | [], _ => rfl
  | a :: r, h => by
    rw [List.findIdx_cons, List.findIdx_cons, h a List.mem_cons_self, findIdx_congr0 (l := r) fun x hx => h x (List.mem_cons_of_mem _ hx)]
theorem und_bit {ns : List Nt} {ms : List Nat} (m : MaskOk ns ms ns.length) {i j : Nat} (hj : j < ns.length) : (ms.getD j 0).testBit i = und ns i j := by
  rw [Bool.eq_iff_iff, m.2 j hj i, und_t]
section
variable {P : Program} {w : World} {K : PySem.W.Frag} {mg : Str → Option Value} {base : Heap} {C : Addr}
theorem ok_num {f : Addr} {fd : FuncData} (T : PcK K C) (F : Fun K "note_number" "note_number" sNum f fd) : FnOk P w K mg base CX0 1 f fd ["pact", "note"] (spNum K C) := by
  refine F.ok scNum (fun vs H Q E h => ?_) (fun cdv A outer s H vs Q E hr h => ?_)
  · obtain ⟨x, hs, ns, i, rfl, _⟩ := h
    rfl
  obtain ⟨x, hs, ns, i, rfl, pa, hi, q⟩ := h
  have hu := hu_of hr
  obtain ⟨dx, nn, rw, un, nx, nm, fs, kvs, rv, xv, ms, e, ⟨a1, a2, a3⟩, _⟩ := pa
  refine ⟨_, pss_cons (ps_if (pt_cmp (pc_dnotin hu (pv 1) (pe_fld (pv 0) rfl))) (pss_one ps_never) pss_nil) (pss_one (ps_ret (pe_dget hu (pe_fld (pv 0) rfl) (pv 1) (fun _ _ => rfl)))), ?_⟩
  have g := DGet.k (k := Sum.inr (nameAt ns i)) a2
  rw [a3.2.1 i hi] at g
  exact ⟨_, rfl, _, rfl, x, C, dx, fs, _, rfl, e, T.cl, T.a6, a1, nn, _, rfl, g, _, rfl, iteF ⟨_, rfl, x, C, dx, fs, _, rfl, e, T.cl, T.a6, a1, _, rfl, nn, nV i, rfl, g, q⟩⟩
theorem ok_lies {f : Addr} {fd : FuncData} (T : PcK K C) (F : Fun K "lies_under" "lies_under" sLies f fd) (N : Dn P w K mg base 1 "note_number" ["pact", "note"] (spNum K C)) : FnOk P w K mg base CX0 2 f fd ["pact", "one", "other"] (spLies K C) := by
  obtain ⟨g, gd, G, kG, bG, mG⟩ := N.ex
  refine F.ok scLi (fun vs H Q E h => ?_) (fun cdv A outer s H vs Q E hr h => ?_)
  · obtain ⟨x, hs, ns, i, j, rfl, _⟩ := h
    rfl
  obtain ⟨x, hs, ns, i, j, rfl, pa, hi, hj, q⟩ := h
  refine ⟨_, pss_cons (ps_set (i := 3) scLi.nd rfl (Or.inl rfl) (pe_call G hr rfl mG kG bG .nil pass0 (pa_cons (pv 0) (pa_cons (pv 1) pa_nil))))
    (pss_one (ps_ret (pe_cmpR op_eq (pe_op op_and (pe_op op_shr (pe_ix ix_tup (pe_fld (pv 0) rfl) (pe_call G hr rfl mG kG bG .nil pass0 (pa_cons (pv 0) (pa_cons (pv 2) pa_nil))) (fun _ _ => rfl)) (pv 3)) pe_int) pe_int (nomark _)))), ?_⟩
  have pa0 := pa
  obtain ⟨dx, nn, rw, un, nx, nm, fs, kvs, rv, xv, ms, e, _, _, ⟨c1, c2, c3⟩, _⟩ := pa
  have ea : atI (ms.map nV) (j : Int) = some (nV (ms.getD j 0)) := by
    refine atI_nat ?_
    rw [List.getElem?_map, List.getElem?_eq_getElem (by rw [c3.1]; exact hj), List.getD_eq_getElem?_getD, List.getElem?_eq_getElem (by rw [c3.1]; exact hj)]
    rfl
  refine ⟨_, rfl, _, rfl, x, hs, ns, i, rfl, pa0, hi, ?_⟩
  refine ⟨_, rfl, x, C, dx, fs, _, rfl, e, T.cl, T.a10, c1, _, rfl, _, rfl, x, hs, ns, j, rfl, pa0, hj, un, _, _, _, rfl, rfl, c2, ea, _, rfl, _, _, rfl, rfl, by omega, _, _, rfl, rfl, rfl, ?_⟩
  have z : decide (V.int (Builtin.bitAnd (((ms.getD j 0 : Nat) : Int) / 2 ^ ((i : Nat) : Int).toNat) 1) = V.int 1) = und ns i j := by
    rw [bitNat, und_bit c3 hj]
    cases und ns i j <;> rfl
  have z2 := q
  rw [← z] at z2
  exact z2
end
end L2.K2


namespace L2.K2
open PySem L2 L2.Bv L2.Pc L2.Ts PyProof.Rows
abbrev sMost : Stmt := top 51
abbrev sNotes : Stmt := top 49
abbrev nNotes : List Str := ["heap", "hands", "names", "many", "notes", "form", "owners", "at", "waits", "turn"]
theorem scMo : FnScope ["heap"] ["heap"] (defScope sMost) := ⟨rfl, rfl, rfl, by decide +kernel, rfl, by decide +kernel, by decide +kernel⟩
theorem scNs : FnScope nNotes ["heap", "hands", "names"] (defScope sNotes) := ⟨rfl, rfl, rfl, by decide +kernel, rfl, by decide +kernel, by decide +kernel⟩
def spMost : Sp := fun vs H Q _ => ∃ (dl cl : Addr), vs = [.ref dl] ∧ DealAt H dl cl ∧ ∀ (m : Nat) (H' : Hp), 6 ≤ m → m ≤ 40 → DealAt H' dl cl → Keep dl cl H H' → Q (nV m) H'
theorem risingS_pair : ∀ (r : List Str) (x : Str), risingS x r = true → (x :: r).Pairwise fun a b => ¬ b.cps.toList < a.cps.toList
  | [], x, _ => List.pairwise_singleton _ _
  | y :: r, x, h => by
    have h2 : (!PySem.Spec.ltCps y.cps.toList x.cps.toList && risingS y r) = true := h
    obtain ⟨a, b⟩ := and_t.mp h2
    have ih := risingS_pair r y b
    have a1 : ¬ y.cps.toList < x.cps.toList := fun z => by
      rw [ltCps_eq, decide_eq_true z] at a
      cases a
    refine List.pairwise_cons.mpr ⟨fun z hz => ?_, ih⟩
    rcases List.mem_cons.mp hz with e | e
    · rw [e]
      exact a1
    · have b1 := (List.pairwise_cons.mp ih).1 z e
      exact fun c => absurd (List.le_trans (List.not_lt.mp a1) (List.not_lt.mp b1)) (List.not_le.mpr c)
theorem rising_of {zs : List Str} (h : sortedS zs = true) (nd : zs.Nodup) : Rising zs := by
  have p : zs.Pairwise fun a b => ¬ b.cps.toList < a.cps.toList := by
    cases zs with
    | nil => exact List.Pairwise.nil
    | cons x r => exact risingS_pair r x h
  refine (List.Pairwise.and p nd).imp fun {a b} ⟨q, ne⟩ => ?_
  rcases Classical.em (a.cps.toList < b.cps.toList) with z | z
  · exact z
  · have e : a.cps.toList = b.cps.toList := List.le_antisymm (List.not_lt.mp q) (List.not_lt.mp z)
    exact absurd (by rw [← chS_of a, ← chS_of b, e]) ne
theorem cutStr (nms : List Str) (lo : Option Int) (i : Nat) : ∃ ws : List Str, cutV (nms.map V.str) lo (some (i : Int)) = ws.map V.str ∧ (∀ x ∈ ws, x ∈ nms.take i) ∧ ws.length ≤ nms.length := by
  refine ⟨(nms.drop (HT.sIx nms.length 0 lo)).take (min i nms.length - HT.sIx nms.length 0 lo), ?_, fun x hx => ?_, ?_⟩
  · unfold cutV
    rw [HT.sIx_nat, List.length_map, List.map_take, List.map_drop]
  · have e : (nms.drop (HT.sIx nms.length 0 lo)).take (min i nms.length - HT.sIx nms.length 0 lo) = (nms.take (min i nms.length)).drop (HT.sIx nms.length 0 lo) := (List.drop_take).symm
    rw [e] at hx
    have z := List.mem_of_mem_drop hx
    rw [List.take_eq_take_min]
    exact z
  · rw [List.length_take, List.length_drop]
    omega
theorem getSnoc {ns : List Nt} {x : Nt} {k : Nat} (h : k < ns.length) : (ns ++ [x]).getD k (Str.empty, Str.empty, []) = ns.getD k (Str.empty, Str.empty, []) := by
  rw [List.getD_eq_getElem?_getD, List.getElem?_append_left h, ← List.getD_eq_getElem?_getD]
theorem getSnocL {ns : List Nt} {x : Nt} : (ns ++ [x]).getD ns.length (Str.empty, Str.empty, []) = x := by
  rw [List.getD_eq_getElem?_getD, List.getElem?_append_right (Nat.le_refl _), Nat.sub_self]
  rfl
theorem getSnocE {ns : List Nt} {x : Nt} {k : Nat} (h : ns.length = k) : (ns ++ [x]).getD k (Str.empty, Str.empty, []) = x := by
  rw [← h, getSnocL]
/-- notes made since H0 -/
def NotesNew (H0 H : Hp) (vs : List V) (ns : List Nt) : Prop := vs.length = ns.length ∧ ∀ (i : Nat) (v : V), vs[i]? = some v → ∃ p q : Addr, v = .ref p ∧ H0 p = none ∧ H0 q = none ∧ H p = some (.tup [.str (nameAt ns i), .str (handAt ns i), .ref q]) ∧ H q = some (.tup ((waitAt ns i).map V.str))
/-- drawn notes: of these names, in this order -/
structure DrOk (hs nms : List Str) (ns : List Nt) : Prop where
  nm : ns.map (·.1) = nms
  hin : ∀ i, i < ns.length → handAt ns i ∈ hs
  wt : ∀ j, j < ns.length → ∀ x ∈ waitAt ns j, ∃ k, k < j ∧ nameAt ns k = x
  ris : ∀ i, i < ns.length → Rising (waitAt ns i)
def spNotes (K : PySem.W.Frag) : Sp := fun vs H Q _ => ∃ (dl cl h n : Addr) (hs nms : List Str), vs = [.ref dl, .ref h, .ref n] ∧ DealAt H dl cl ∧ H h = some (.lst (hs.map V.str)) ∧ H n = some (.lst (nms.map V.str)) ∧ (h ≠ dl ∧ h ≠ cl ∧ n ≠ dl ∧ n ≠ cl) ∧ HdOk hs ∧ nms.Nodup ∧ hs.length ≤ nms.length ∧ nms.length ≤ 40 ∧
  ∀ (p : Addr) (vs : List V) (ns : List Nt) (H' : Hp), H p = none → H' p = some (.lst vs) → NotesNew H H' vs ns → DrOk hs nms ns → (∀ z ∈ hs, ∃ k, k < ns.length ∧ handAt ns k = z) → DealAt H' dl cl → Keep dl cl H H' → Q (.ref p) H'
section
variable {P : Program} {w : World} {K : PySem.W.Frag} {mg : Str → Option Value} {base : Heap}
theorem ok_most {f : Addr} {fd : FuncData} (F : Fun K "_law_most" "_law_most" sMost f fd) (O : Dn P w K mg base 2 "_law_pick" ["heap", "some"] spOf) : FnOk P w K mg base CX0 3 f fd ["heap"] spMost := by
  obtain ⟨o, od, O, kO, bO, mO⟩ := O.ex
  refine F.ok scMo (fun vs H Q E h => ?_) (fun cdv A outer s H vs Q E hr h => ?_)
  · obtain ⟨dl, cl, rfl, _⟩ := h
    rfl
  obtain ⟨dl, cl, rfl, D, q⟩ := h
  refine ⟨_, pss_one (ps_ret (pe_call O hr rfl mO kO bO .nil pass0 (pa_cons (pv 0) (pa_cons (pe_lst (pa_cons pe_int (pa_cons pe_int (pa_cons pe_int (pa_cons pe_int (pa_cons pe_int (pa_cons pe_int (pa_cons pe_int (pa_cons pe_int pa_nil))))))))) pa_nil)))), ?_⟩
  refine ⟨_, rfl, (by show 8 ≤ sizeLine; decide), fun l hl => ?_⟩
  obtain ⟨ld, lc⟩ := dealOff D hl
  refine ⟨dl, cl, _, rfl, D.new _ hl, .inl ⟨l, _, rfl, ld, lc, upd_same, (by show 1 ≤ 8; decide), (by show 8 ≤ 1000; decide), fun i v H1 hi D1 k1 => ?_⟩⟩
  have k2 : Keep dl cl H H1 := (Keep.new _ hl).trans k1
  match i, hi with
  | 0, hi => obtain rfl := Option.some.inj hi; exact q 6 H1 (by decide) (by decide) D1 k2
  | 1, hi => obtain rfl := Option.some.inj hi; exact q 8 H1 (by decide) (by decide) D1 k2
  | 2, hi => obtain rfl := Option.some.inj hi; exact q 8 H1 (by decide) (by decide) D1 k2
  | 3, hi => obtain rfl := Option.some.inj hi; exact q 10 H1 (by decide) (by decide) D1 k2
  | 4, hi => obtain rfl := Option.some.inj hi; exact q 10 H1 (by decide) (by decide) D1 k2
  | 5, hi => obtain rfl := Option.some.inj hi; exact q 12 H1 (by decide) (by decide) D1 k2
  | 6, hi => obtain rfl := Option.some.inj hi; exact q 14 H1 (by decide) (by decide) D1 k2
  | 7, hi => obtain rfl := Option.some.inj hi; exact q 40 H1 (by decide) (by decide) D1 k2
  | i + 8, hi => cases hi
theorem ok_notes {f : Addr} {fd : FuncData} (F : Fun K "_law_notes" "_law_notes" sNotes f fd) (G : Dn P w K mg base 1 "_law_draw" ["heap", "many"] spAny) (O : Dn P w K mg base 2 "_law_pick" ["heap", "some"] spOf) (M : Dn P w K mg base 2 "_law_mixed" ["heap", "some"] (spMixed K))
    (mr : mg "range" = none) (mn : mg "len" = none) (mi : mg "int" = none) (mt : mg "tuple" = none) (ms : mg "set" = none) (mS : mg "sorted" = none) : FnOk P w K mg base CX0 3 f fd ["heap", "hands", "names"] (spNotes K) := by
  obtain ⟨g, gd, G, kG, bG, mG⟩ := G.ex
  obtain ⟨o, od, O, kO, bO, mO⟩ := O.ex
  obtain ⟨m0, md, M, kM, bM, mM⟩ := M.ex
  refine F.ok scNs (fun vs H Q E h => ?_) (fun cdv A outer s H vs Q E hr h => ?_)
  · obtain ⟨dl, cl, h, n, hs, nms, rfl, _⟩ := h
    rfl
  obtain ⟨dl, cl, h, n, hs, nms, rfl, D, eh, en, ⟨nh1, nh2, nn1, nn2⟩, ok, nd, hl, n40, q⟩ := h
  have hr1 : Room 1 _ := hr.mono (by decide)
  refine ⟨_, pss_cons (ps_par3 (i := 3) (j := 4) (l := 5) rfl scNs.nd rfl rfl rfl (by decide) (by decide) (by decide) rfl rfl rfl (pa_cons (pe_callB call_len_seq (by rfl) mn PySem.boot_len (pa_cons (pv 2) pa_nil)) (pa_cons (pe_lst pa_nil) (pa_cons (pe_call G hr1 rfl mG kG bG .nil pass0 (pa_cons (pv 0) (pa_cons pe_int pa_nil))) pa_nil))) (by rfl))
    (pss_cons (ps_set (i := 6) scNs.nd rfl (Or.inl rfl) (pe_call M hr rfl mM kM bM .nil pass0 (pa_cons (pv 0) (pa_cons (pe_op op_cat (pv 1) (pe_lc (own := [("turn", 9)]) (g := gName 9) (tt := tYes) rfl scNs.nd (pi_range1 (by rfl) mr (pa_cons (pe_op op_sub (pv 3) (pe_callB call_len_seq (by rfl) mn PySem.boot_len (pa_cons (pv 1) pa_nil))) pa_nil)) (blkOk_by (N := nNotes) (sc := defScope sNotes) (by decide +kernel)) (fun _ _ _ _ _ => pg_name (i := 9) scNs.nd rfl (Or.inl rfl)) (fun _ _ _ _ _ => pts_nil)
        (fun _ _ _ _ _ => pe_call O hr rfl mO kO bO .nil pass0 (pa_cons (pv 0) (pa_cons (pv 1) pa_nil))))) pa_nil))))
    (pss_cons (ps_if (pt_cmpR op_eq (pe_call G hr1 rfl mG kG bG .nil pass0 (pa_cons (pv 0) (pa_cons pe_int pa_nil))) pe_int (nomark _)) (pss_one (ps_setLc (i := 6) (own := [("at", 7)]) (g := gName 7) (tt := tYes) rfl scNs.nd rfl rfl (sw_true rfl rfl rfl (by decide +kernel)) (pi_range1 (by rfl) mr (pa_cons (pv 3) pa_nil)) (blkOk_by (N := nNotes) (sc := defScope sNotes) (by decide +kernel)) (fun _ _ _ _ _ => pg_name (i := 7) scNs.nd rfl (Or.inl rfl)) (fun _ _ _ _ _ => pts_nil)
        (fun _ _ _ _ _ => pe_ix (ixListK (K := K) rfl) (pv 1) (pe_op op_modN (pe_callTy call_int1 (by rfl) mi (by decide +kernel) (pa_cons (pv 7) pa_nil)) (pe_callB (lenSeqK (K := K) rfl) (by rfl) mn PySem.boot_len (pa_cons (pv 1) pa_nil))) (fun _ _ => rfl)))) pss_nil)
    (pss_cons (ps_for PassesOwn.never rfl (pi_range1 (by rfl) mr (pa_cons (pv 3) pa_nil)) (pg_name (i := 7) scNs.nd rfl (Or.inr rfl))
      (pss_cons (ps_set (i := 8) scNs.nd rfl (Or.inl rfl) (pe_ifExp (PW.pt (pw_and (pt_cmpR op_eq (pv 5) pe_int (nomark _)) (pw_and1 (pt_cmpR op_gt (pv 7) pe_int (nomark _))))) (pe_slice sl_list (pv 2) (po_some (pe_op op_sub (pv 7) pe_int)) (po_some (pv 7))) (pe_lst pa_nil)))
      (pss_cons (ps_if (PW.pt (pw_and (pt_cmpR op_gt (pv 5) pe_int (nomark _)) (pw_and1 (pt_cmpR op_gt (pv 7) pe_int (nomark _))))) (pss_one (ps_setLc (i := 8) (own := [("turn", 9)]) (g := gName 9) (tt := tYes) rfl scNs.nd rfl rfl (sw_true rfl rfl rfl (by decide +kernel))
          (pi_range1 (by rfl) mr (pa_cons (pe_call G hr1 rfl mG kG bG .nil pass0 (pa_cons (pv 0) (pa_cons (pe_ifExp (pt_cmpR op_gt (pv 5) pe_int (nomark _)) pe_int pe_int) pa_nil))) pa_nil)) (blkOk_by (N := nNotes) (sc := defScope sNotes) (by decide +kernel)) (fun _ _ _ _ _ => pg_name (i := 9) scNs.nd rfl (Or.inl rfl)) (fun _ _ _ _ _ => pts_nil)
          (fun _ _ _ _ _ => pe_call O hr rfl mO kO bO .nil pass0 (pa_cons (pv 0) (pa_cons (pe_slice (show SlR _ (rSlL K) from sl_list) (pv 2) po_none (po_some (pv 7))) pa_nil))))) pss_nil)
      (pss_cons (ps_if (PW.pt (pw_and (pt_cmpR op_eq (pv 5) pe_int (nomark _)) (pw_and1 (pt_cmpR op_lt (pv 3) pe_int (nomark _))))) (pss_one (ps_set (i := 8) scNs.nd rfl (Or.inl rfl) (pe_slice sl_list (pv 2) po_none (po_some (pv 7))))) pss_nil)
      (pss_one (ps_expr (pe_bm PySem.F.plainAttrs_list PySem.F.slot_list_append PySem.F.type_list_append mt_append (pv 4) (pa_cons (pe_tup (pa_cons (pe_ix ix_list (pv 2) (pv 7) (fun _ _ => rfl)) (pa_cons (pe_ix ix_list (pv 6) (pv 7) (fun _ _ => rfl)) (pa_cons (pe_callTy call_tuple_of (by rfl) mt (by decide +kernel)
          (pa_cons (pe_callB (cr_sortT rfl) (by rfl) mS (by decide +kernel) (pa_cons (pe_callTy (cr_setT rfl) (by rfl) ms (by decide +kernel) (pa_cons (pv 8) pa_nil)) pa_nil)) pa_nil)) pa_nil)))) pa_nil))))))))
    (pss_one (ps_ret (pv 4)))))), ?_⟩
  have lh6 := ok.six
  have lh2 := ok.two
  have lnm : (nms.map V.str).length = nms.length := List.length_map _
  have lhs : (hs.map V.str).length = hs.length := List.length_map _
  refine ⟨_, rfl, n, _, rfl, .inl (SqL.of en), by show 0 ≤ sizeLine; decide, fun no hno => ⟨_, rfl, dl, cl, _, rfl, D.new _ hno, by decide, by decide, fun fm H1 f0 f1 D1 k1 => ⟨_, _, _, rfl, ?_⟩⟩⟩
  obtain ⟨nod, noc⟩ := dealOff D hno
  have k01 : Keep dl cl H H1 := (Keep.new _ hno).trans k1
  have e1 := k1 _ _ nod noc upd_same
  have eh1 := k01 _ _ nh1 nh2 eh
  have en1 := k01 _ _ nn1 nn2 en
  dsimp only
  refine seqBy (fun σ2 H2 => ∃ (ol : Addr) (os : List Str), σ2 = [some (.ref dl), some (.ref h), some (.ref n), some (nV nms.length), some (.ref no), some (.int fm), some (.ref ol), none, none, none] ∧ DealAt H2 dl cl ∧ Keep dl cl H H2 ∧ H2 no = some (.lst []) ∧ H2 ol = some (.lst (os.map V.str)) ∧ H ol = none ∧ ol ≠ no ∧
    os.length = nms.length ∧ (∀ z ∈ os, z ∈ hs) ∧ ∀ z ∈ hs, z ∈ os) ?_ ?_
  · rintro σ2 H2 ⟨ol, os, rfl, D2, k2, e2, eo2, ho2, ne2, lo2, in2, all2⟩
    refine seqBy (fun σ2 H2 => ∃ (ol : Addr) (os : List Str), σ2 = [some (.ref dl), some (.ref h), some (.ref n), some (nV nms.length), some (.ref no), some (.int fm), some (.ref ol), none, none, none] ∧ DealAt H2 dl cl ∧ Keep dl cl H H2 ∧ H2 no = some (.lst []) ∧ H2 ol = some (.lst (os.map V.str)) ∧ H ol = none ∧ ol ≠ no ∧
      os.length = nms.length ∧ (∀ z ∈ os, z ∈ hs) ∧ ∀ z ∈ hs, z ∈ os) ?_ ?_
    · clear D2 k2 e2 eo2 ho2 ne2 lo2 in2 all2
      rintro σ3 H3 ⟨ol, os, rfl, D3, k3, e3, eo3, ho3, ne3, lo3, in3, all3⟩
      refine ⟨_, rfl, _, rfl, by omega, by omega, ?_⟩
      obtain ⟨old, olc⟩ := dealOff D ho3
      refine for_range (lo := 0) (n := nms.length) (fun i σ H4 => ∃ (t7 t8 : Option V) (vs : List V) (ns : List Nt), σ = [some (.ref dl), some (.ref h), some (.ref n), some (nV nms.length), some (.ref no), some (.int fm), some (.ref ol), t7, t8, none] ∧ DealAt H4 dl cl ∧ Keep dl cl H H4 ∧ H4 no = some (.lst vs) ∧ H4 ol = some (.lst (os.map V.str)) ∧ NotesNew H H4 vs ns ∧ ns.length = i ∧
        (∀ k, k < i → nms[k]? = some (nameAt ns k) ∧ os[k]? = some (handAt ns k)) ∧ (∀ j, j < i → ∀ x ∈ waitAt ns j, ∃ k, k < j ∧ nms[k]? = some x) ∧ ∀ j, j < i → Rising (waitAt ns j)) ?_ ?_ ?_
      · exact ⟨none, none, [], [], rfl, D3, k3, e3, eo3, ⟨rfl, fun j v z => by cases z⟩, rfl, fun k lt => absurd lt (by omega), fun k lt => absurd lt (by omega), fun k lt => absurd lt (by omega)⟩
      · rintro i σ H4 hi ⟨t7, t8, vs, ns, rfl, D4, k4, e4, eo4, nn4, li, nm4, wt4, ri4⟩
        have ei : (0 : Int) + (i : Int) = ((i : Nat) : Int) := by omega
        rw [ei]
        dsimp only [gName]
        let W : St → Hp → Prop := fun σ1 H5 => ∃ (wl : Addr) (ws : List Str), σ1 = [some (.ref dl), some (.ref h), some (.ref n), some (nV nms.length), some (.ref no), some (.int fm), some (.ref ol), some (nV i), some (.ref wl), none] ∧ DealAt H5 dl cl ∧ Keep dl cl H4 H5 ∧ H5 wl = some (.lst (ws.map V.str)) ∧ H4 wl = none ∧ ws.length ≤ 40 ∧ ∀ x ∈ ws, ∃ k, k < i ∧ nms[k]? = some x
        have take_in : ∀ x ∈ nms.take i, ∃ k, k < i ∧ nms[k]? = some x := fun x hx => by
          obtain ⟨k, lk, rfl⟩ := List.getElem_of_mem hx
          rw [List.length_take] at lk
          exact ⟨k, by omega, by rw [List.getElem_take] <;> exact List.getElem?_eq_getElem (by omega)⟩
        have en4 := k4 _ _ nn1 nn2 en
        refine seqBy W ?_ ?_
        · rintro σ5 H5 ⟨wl, ws, rfl, D5, k5, e5, h5, l5, w5⟩
          refine seqBy W ?_ ?_
          · clear D5 k5 e5 h5 l5 w5
            rintro σ6 H6 ⟨wl, ws, rfl, D6, k6, e6, h6, l6, w6⟩
            refine seqBy W ?_ ?_
            · clear D6 k6 e6 h6 l6 w6
              rintro σ7 H7 ⟨wl, ws, rfl, D7, k7, e7, h7, l7, w7⟩
              have li2 : i < nms.length := hi
              have lo2 : i < os.length := by omega
              have en7 := k7 _ _ nn1 nn2 en4
              have eo7 := k7 _ _ old olc eo4
              have no7 := k7 _ _ nod noc e4
              have atN : atI (nms.map V.str) ((i : Nat) : Int) = some (.str nms[i]) := by
                refine atI_nat ?_
                rw [List.getElem?_map, List.getElem?_eq_getElem li2]
                rfl
              have atO : atI (os.map V.str) ((i : Nat) : Int) = some (.str os[i]) := by
                refine atI_nat ?_
                rw [List.getElem?_map, List.getElem?_eq_getElem lo2]
                rfl
              refine ⟨_, rfl, .inl ⟨rfl, _, SqL.of no7⟩, _, rfl, _, rfl, n, _, _, _, rfl, rfl, SqL.of en7, atN, _, rfl, _, rfl, ol, _, _, _, rfl, rfl, SqL.of eo7, atO, ?_⟩
              have lon := once_len ws
              refine ⟨_, rfl, wl, ws, rfl, SqL.of e7, by omega, fun t ht => ⟨t, once ws, rfl, upd_same, by omega, fun zs p pm so hp => ⟨p, _, rfl, .inl ⟨SqL.of upd_same, fun q0 hq0 => ⟨by show 3 ≤ sizeLine; decide, fun T hT => ?_⟩⟩⟩⟩⟩
              have s1 := smNew (o := TSo P w t (once ws)) ht
              have s2 := s1.trans (smNew (o := .lst (zs.map V.str)) hp)
              have s3 := s2.trans (smNew (o := .tup (zs.map V.str)) hq0)
              have s4 := s3.trans (smNew (o := .tup [V.str nms[i], V.str os[i], V.ref q0]) hT)
              have lvs : vs.length = i := by rw [nn4.1, li]
              refine ⟨no, _, _, rfl, rfl, s4 _ _ no7, small1000 (by omega), ?_⟩
              have k47 : Keep dl cl H H7 := k4.trans k7
              have hq7 : H7 q0 = none := s2.free hq0
              have hT7 : H7 T = none := s3.free hT
              have ris : Rising zs := rising_of so (pm.nodup_iff.mpr (once_nodup ws))
              have wsub : ∀ x ∈ zs, ∃ k, k < i ∧ nms[k]? = some x := fun x hx => w7 x (once_mem.mp (pm.mem_iff.mp hx))
              have stand : ∀ u xs0, u ≠ no → H7 u = some xs0 → upd (upd (upd (upd (upd H7 t (TSo P w t (once ws))) p (.lst (zs.map V.str))) q0 (.tup (zs.map V.str))) T (.tup [V.str nms[i], V.str os[i], V.ref q0])) no (.lst (vs ++ [V.ref T])) u = some xs0 := fun u xs0 ne e => by
                rw [upd_ne ne]
                exact s4 _ _ e
              refine ⟨_, _, vs ++ [V.ref T], ns ++ [(nms[i], os[i], zs)], rfl, ?_, ?_, upd_same, stand _ _ ne3 eo7, ⟨by rw [List.length_append, List.length_append, nn4.1] <;> rfl, fun j v hv => ?_⟩, by rw [List.length_append, li] <;> rfl, fun k lk => ?_, fun j lj x hx => ?_, fun j lj => ?_⟩
              · exact ((((D7.new _ ht).new _ hp).new _ hq0).new _ hT).new' nod noc
              · exact (keepOf ((k47.dc).trans (KS.of s4))).onto no hno
              · by_cases lt : j < vs.length
                · rw [List.getElem?_append_left lt] at hv
                  obtain ⟨p1, q1, a1, a2, a3, a4, a5⟩ := nn4.2 j v hv
                  obtain ⟨b1, b2⟩ := dealOff D a2
                  obtain ⟨b3, b4⟩ := dealOff D a3
                  have p1n : p1 ≠ no := fun z => by
                    rw [z, e4] at a4
                    cases a4
                  have q1n : q1 ≠ no := fun z => by
                    rw [z, e4] at a5
                    cases a5
                  have jn : j < ns.length := by omega
                  refine ⟨p1, q1, a1, a2, a3, ?_, ?_⟩
                  · unfold Pc.nameAt handAt
                    rw [getSnoc jn]
                    exact stand _ _ p1n (k7 _ _ b1 b2 a4)
                  · unfold waitAt
                    rw [getSnoc jn]
                    exact stand _ _ q1n (k7 _ _ b3 b4 a5)
                · have je : j = vs.length := by
                    have z := (List.getElem?_eq_some_iff.mp hv).1
                    rw [List.length_append] at z
                    have z2 : [V.ref T].length = 1 := rfl
                    omega
                  subst je
                  rw [List.getElem?_append_right (Nat.le_refl _), Nat.sub_self] at hv
                  obtain rfl := Option.some.inj hv
                  have Tn : T ≠ no := fun z => by
                    rw [z, no7] at hT7
                    cases hT7
                  have qn : q0 ≠ no := fun z => by
                    rw [z, no7] at hq7
                    cases hq7
                  have qT : q0 ≠ T := ne_of_none upd_same hT
                  refine ⟨T, q0, rfl, noneBack k47 D7 hT7, noneBack k47 D7 hq7, ?_, ?_⟩
                  · unfold Pc.nameAt handAt
                    rw [getSnocE nn4.1.symm, upd_ne Tn]
                    exact upd_same
                  · unfold waitAt
                    rw [getSnocE nn4.1.symm, upd_ne qn, upd_ne qT]
                    exact upd_same
              · unfold Pc.nameAt handAt
                by_cases ki : k = i
                · subst ki
                  rw [getSnocE li]
                  exact ⟨List.getElem?_eq_getElem li2, List.getElem?_eq_getElem lo2⟩
                · rw [getSnoc (by omega)]
                  exact nm4 k (by omega)
              · unfold waitAt at hx
                by_cases ji : j = i
                · subst ji
                  rw [getSnocE li] at hx
                  exact wsub x hx
                · rw [getSnoc (by omega)] at hx
                  exact wt4 j (by omega) x hx
              · unfold waitAt
                by_cases ji : j = i
                · subst ji
                  rw [getSnocE li]
                  exact ris
                · rw [getSnoc (by omega)]
                  exact ri4 j (by omega)
            · intro nx
              refine ⟨_, rfl, rfl, _, rfl, ite2 (fun c1 => ?_) (fun c1 => iteF (nx _ _ ⟨wl, ws, rfl, D6, k6, e6, h6, l6, w6⟩))⟩
              refine ⟨_, rfl, _, _, rfl, rfl, _, rfl, ite2 (fun c2 => ?_) (fun c2 => nx _ _ ⟨wl, ws, rfl, D6, k6, e6, h6, l6, w6⟩)⟩
              refine ⟨_, rfl, _, rfl, _, rfl, n, _, rfl, SqL.of (k6 _ _ nn1 nn2 en4), fun l hl => ?_⟩
              obtain ⟨us, z1, z2, z3⟩ := cutStr nms none i
              exact nx _ _ ⟨l, us, rfl, D6.new _ hl, k6.onto l (noneBack k6 D6 hl), by rw [upd_same]; exact congrArg (fun z => some (HO.lst z)) z1, noneBack k6 D6 hl, by omega, fun x hx => take_in x (z2 x hx)⟩
          · intro nx
            refine ⟨_, rfl, _, _, rfl, rfl, _, rfl, ite2 (fun c1 => ?_) (fun c1 => iteF (nx _ _ ⟨wl, ws, rfl, D5, k5, e5, h5, l5, w5⟩))⟩
            refine ⟨_, rfl, _, _, rfl, rfl, _, rfl, ite2 (fun c2 => ?_) (fun c2 => nx _ _ ⟨wl, ws, rfl, D5, k5, e5, h5, l5, w5⟩)⟩
            have i0 : 0 < i := by
              have z := of_decide_eq_true c2
              omega
            refine ⟨_, rfl, _, rfl, _, _, rfl, rfl, _, rfl, ?_⟩
            refine ite2 (fun c3 => ?_) (fun c3 => ?_)
            all_goals
              refine ⟨dl, cl, _, rfl, D5, by decide, by decide, fun r H6 r0 r1 D6 k6 => ⟨_, rfl, by omega, by omega, fun L hL => ?_⟩⟩
              obtain ⟨Ld, Lc⟩ := dealOff D6 hL
              have k56 := k5.trans k6
              refine lcG walk_range (dc dl cl) (fun H => DealAt H dl cl) (fun _ => true) (fun _ v _ => ∃ x ∈ nms.take i, v = V.str x) hL D6.al (fun H o d _ => d.new' Ld Lc) D6 (by omega) (fun _ _ => trivial) ?_ ?_
              · rintro j x H7 _ KT KF hj k7 D7 _ ⟨rfl, rfl⟩ kt kf
                have k47 := k56.trans (keepOf k7)
                obtain ⟨us, z1, z2, z3⟩ := cutStr nms none i
                refine ⟨rfl, yesT (iteT ⟨_, rfl, _, rfl, _, rfl, _, rfl, n, _, rfl, SqL.of (k47 _ _ nn1 nn2 en4), fun l hl => ?_⟩)⟩
                obtain ⟨ld, lc⟩ := dealOff D7 hl
                have lus : (cutV (nms.map V.str) none (some (i : Int))).length = min i nms.length := by
                  rw [cutTo, List.length_take, lnm]
                refine ⟨dl, cl, _, rfl, D7.new _ hl, .inl ⟨l, _, rfl, ld, lc, upd_same, by rw [lus]; omega, by rw [lus]; omega, fun a v H8 ha D8 k8 => kt _ _ rfl (((Keep.new _ hl).trans k8).dc) D8 ?_⟩⟩
                rw [z1] at ha
                obtain ⟨y, hy, rfl⟩ := strGet ha
                exact St'.pure ⟨y, z2 y (List.mem_of_getElem? hy), rfl⟩
              · intro H7 acc k7 D7 e7 hb
                have k47 := k56.trans (keepOf k7)
                obtain ⟨us, rfl, hus⟩ : ∃ us : List Str, acc = us.map V.str ∧ ∀ x ∈ us, x ∈ nms.take i := by
                  have hacc : ∀ v ∈ acc, ∃ z ∈ nms.take i, v = V.str z := fun v hv => by
                    obtain ⟨j, hj, e⟩ := List.getElem_of_mem hv
                    obtain ⟨_, _, z⟩ := hb.2 j v (by rw [← e] <;> exact List.getElem?_eq_getElem hj)
                    exact z.now
                  clear hb e7
                  induction acc with
                  | nil => exact ⟨[], rfl, fun x hx => by cases hx⟩
                  | cons v r ih =>
                    obtain ⟨z, hz, rfl⟩ := hacc v List.mem_cons_self
                    obtain ⟨us, rfl, h2⟩ := ih fun u hu => hacc u (List.mem_cons_of_mem _ hu)
                    refine ⟨z :: us, rfl, fun x hx => ?_⟩
                    rcases List.mem_cons.mp hx with e | e
                    · rw [e]
                      exact hz
                    · exact h2 x e
                have lus : us.length ≤ 3 := by
                  have z := hb.1
                  rw [idx_all, List.length_range, List.length_map] at z
                  omega
                exact nx _ _ ⟨L, us, rfl, D7, k47, e7, noneBack k56 D6 hL, by omega, fun x hx => take_in x (hus x hx)⟩
        · intro nx
          refine ⟨_, rfl, rfl, _, rfl, ite2 (fun c1 => ?_) (fun c1 => iteF ?_)⟩
          · refine ⟨_, rfl, _, _, rfl, rfl, _, rfl, ite2 (fun c2 => ?_) (fun c2 => ?_)⟩
            · refine ⟨_, rfl, _, rfl, _, _, rfl, rfl, _, rfl, _, rfl, _, rfl, n, _, rfl, SqL.of en4, fun l hl => ?_⟩
              obtain ⟨us, z1, z2, z3⟩ := cutStr nms (some ((i : Int) - 1)) i
              exact nx _ _ ⟨l, us, rfl, D4.new _ hl, Keep.new _ hl, by rw [upd_same]; exact congrArg (fun z => some (HO.lst z)) z1, hl, by omega, fun x hx => take_in x (z2 x hx)⟩
            · exact ⟨by show 0 ≤ sizeLine; decide, fun l hl => nx _ _ ⟨l, [], rfl, D4.new _ hl, Keep.new _ hl, upd_same, hl, by decide, fun x hx => by cases hx⟩⟩
          · exact ⟨by show 0 ≤ sizeLine; decide, fun l hl => nx _ _ ⟨l, [], rfl, D4.new _ hl, Keep.new _ hl, upd_same, hl, by decide, fun x hx => by cases hx⟩⟩
      · rintro σ H4 ⟨t7, t8, vs, ns, rfl, D4, k4, e4, eo4, nn4, li, nm4, wt4, ri4⟩
        refine ⟨_, rfl, q no vs ns H4 hno e4 nn4 ⟨?_, fun i hi => in3 _ (List.mem_of_getElem? (nm4 i (by omega)).2), fun j hj x hx => ?_, fun j hj => ri4 j (by omega)⟩ (fun z hz => ?_) D4 k4⟩
        · rw [nameMap]
          refine List.ext_getElem? fun k => ?_
          rw [List.getElem?_map]
          rcases Nat.lt_or_ge k ns.length with lt | ge
          · rw [List.getElem?_range lt, (nm4 k (by omega)).1]
            rfl
          · rw [List.getElem?_eq_none_iff.mpr (by rw [List.length_range]; exact ge), List.getElem?_eq_none_iff.mpr (by omega)]
            rfl
        · obtain ⟨k, lk, e⟩ := wt4 j (by omega) x hx
          rw [(nm4 k (by omega)).1] at e
          exact ⟨k, lk, Option.some.inj e⟩
        · obtain ⟨k, lk, e⟩ := List.getElem_of_mem (all3 z hz)
          have z2 := (nm4 k (by omega)).2
          rw [List.getElem?_eq_getElem lk, e] at z2
          exact ⟨k, by omega, (Option.some.inj z2).symm⟩
    · intro nx
      refine ⟨_, rfl, dl, cl, _, rfl, D2, by decide, by decide, fun r H3 r0 r1 D3 k3 => ⟨rfl, _, rfl, ?_⟩⟩
      have k23 := k2.trans k3
      have e3 := k3 _ _ nod noc e2
      have eh3 := k23 _ _ nh1 nh2 eh
      refine ite2 (fun _ => ?_) (fun _ => nx _ _ ⟨ol, os, rfl, D3, k23, e3, ?_, ho2, ne2, lo2, in2, all2⟩)
      · refine ⟨_, rfl, _, rfl, by omega, by omega, fun L hL => ?_⟩
        obtain ⟨Ld, Lc⟩ := dealOff D3 hL
        refine lcF walk_range (fun _ => true) (fun i => V.str (hs.getD (i % hs.length) Str.empty)) hL (by omega) (fun _ _ => trivial) ?_ ?_
        · rintro i x H4 _ KT KF hi s4 ⟨rfl, rfl⟩ kt kf
          have lt : i % hs.length < hs.length := Nat.mod_lt _ (by omega)
          have ei : ((0 : Int) + (i : Int)).fmod ((hs.map V.str).length : Nat) = ((i % hs.length : Nat) : Int) := by
            rw [lhs, Int.zero_add, Int.fmod_eq_emod_of_nonneg _ (by omega)]
            rfl
          refine ⟨rfl, yesT (iteT ⟨_, rfl, _, rfl, .inl ⟨_, rfl, _, rfl, h, _, rfl, .inl (SqL.of (s4 _ _ eh3)), _, _, rfl, rfl, by omega, h, _, _, _, rfl, rfl, SqL.of (s4 _ _ eh3), ?_, kt _ _ rfl (Same.refl _) rfl⟩⟩)⟩
          rw [ei]
          refine atI_nat ?_
          rw [List.getElem?_map, List.getElem?_eq_getElem lt, List.getD_eq_getElem?_getD, List.getElem?_eq_getElem lt]
          rfl
        · intro H4 s4 e4
          have el : (idx (fun _ => true) ((nms.length : Nat) : Int).toNat).map (fun i => V.str (hs.getD (i % hs.length) Str.empty)) = ((List.range nms.length).map fun i => hs.getD (i % hs.length) Str.empty).map V.str := by
            rw [idx_all, Int.toNat_natCast, List.map_map]
            rfl
          refine nx _ _ ⟨L, (List.range nms.length).map fun i => hs.getD (i % hs.length) Str.empty, rfl, ?_, k23.trans (fun x o _ _ z => s4 x o z), s4 _ _ e3, by rw [e4]; exact congrArg (fun z => some (HO.lst z)) el, noneBack k23 D3 hL, (ne_of_none e3 hL).symm, by rw [List.length_map, List.length_range], fun z hz => ?_, fun z hz => ?_⟩
          · obtain ⟨cs, m, a1, a2, a3⟩ := D3.ex
            exact ⟨cs, m, s4 _ _ a1, s4 _ _ a2, a3⟩
          · obtain ⟨i, _, rfl⟩ := List.mem_map.mp hz
            have lt : i % hs.length < hs.length := Nat.mod_lt _ (by omega)
            rw [List.getD_eq_getElem?_getD, List.getElem?_eq_getElem lt]
            exact List.getElem_mem lt
          · obtain ⟨k, lk, rfl⟩ := List.getElem_of_mem hz
            refine List.mem_map.mpr ⟨k, List.mem_range.mpr (by omega), ?_⟩
            rw [Nat.mod_eq_of_lt lk, List.getD_eq_getElem?_getD, List.getElem?_eq_getElem lk]
            rfl
      · obtain ⟨od2, oc2⟩ := dealOff D ho2
        exact k3 _ _ od2 oc2 eo2
  · intro nx
    refine ⟨_, rfl, _, rfl, _, rfl, _, rfl, h, _, rfl, .inl (SqL.of eh1), _, _, rfl, rfl, _, rfl, by omega, by omega, fun L hL => ?_⟩
    obtain ⟨Ld, Lc⟩ := dealOff D1 hL
    refine lcG walk_range (dc dl cl) (fun H => DealAt H dl cl) (fun _ => true) (fun _ v _ => ∃ z ∈ hs, v = V.str z) hL D1.al (fun H o d _ => d.new' Ld Lc) D1 (by omega) (fun _ _ => trivial) ?_ ?_
    · rintro i x H2 _ KT KF hi k2 D2 _ ⟨rfl, rfl⟩ kt kf
      have k12 := keepOf k2
      refine ⟨rfl, yesT (iteT ⟨_, rfl, _, rfl, dl, cl, _, rfl, D2, .inl ⟨h, _, rfl, nh1, nh2, k12 _ _ nh1 nh2 eh1, by omega, by omega, fun j v H3 hj D3 k3 => kt _ _ rfl k3.dc D3 ?_⟩⟩)⟩
      obtain ⟨z, hz, rfl⟩ := strGet hj
      exact St'.pure ⟨z, List.mem_of_getElem? hz, rfl⟩
    · rintro H2 acc k2 D2 e2 hb
      have k12 : Keep dl cl H1 H2 := keepOf k2
      have hacc : ∀ v ∈ acc, ∃ z ∈ hs, v = V.str z := fun v hv => by
        obtain ⟨j, hj, e⟩ := List.getElem_of_mem hv
        obtain ⟨_, _, z⟩ := hb.2 j v (by rw [← e] <;> exact List.getElem?_eq_getElem hj)
        exact z.now
      obtain ⟨as, rfl⟩ : ∃ as : List Str, acc = as.map V.str := by
        clear hb e2
        induction acc with
        | nil => exact ⟨[], rfl⟩
        | cons v r ih =>
          obtain ⟨z, _, rfl⟩ := hacc v List.mem_cons_self
          obtain ⟨as, rfl⟩ := ih fun u hu => hacc u (List.mem_cons_of_mem _ hu)
          exact ⟨z :: as, rfl⟩
      have las : as.length = nms.length - hs.length := by
        have z := hb.1
        rw [idx_all, List.length_range, List.length_map] at z
        omega
      refine ⟨h, L, _, _, rfl, rfl, k12 _ _ nh1 nh2 eh1, e2, by rw [lhs, List.length_map]; exact Nat.le_of_lt (small1000 (by omega)), fun t ht => ?_⟩
      refine ⟨dl, cl, t, _, rfl, D2.new _ ht, SqL.of upd_same, by rw [List.length_append, lhs, List.length_map]; omega, fun p ys H3 hp pm e3 D3 k3 => ?_⟩
      rw [← List.map_append] at pm
      obtain ⟨os, rfl, po⟩ := strPerm pm
      have k02 := k01.trans k12
      have k03 : Keep dl cl H H3 := k02.trans ((Keep.new _ ht).trans k3)
      have e2n : H2 no = some (.lst []) := k12 _ _ nod noc e1
      have e3n : H3 no = some (.lst []) := k3 _ _ nod noc (smNew ht _ _ e2n)
      have pn : p ≠ no := fun z => by
        rw [z] at hp
        rw [smNew ht _ _ e2n] at hp
        cases hp
      have pt : H2 p = none := by
        by_cases z : p = t
        · rw [z, upd_same] at hp
          cases hp
        · rw [upd_ne z] at hp
          exact hp
      refine nx _ _ ⟨p, os, by rw [← lnm]; rfl, D3, k03, e3n, e3, noneBack k02 D2 pt, pn, by rw [po.length_eq, List.length_append, las]; omega, fun z hz => ?_, fun z hz => po.mem_iff.mpr (List.mem_append.mpr (.inl hz))⟩
      rcases List.mem_append.mp (po.mem_iff.mp hz) with q1 | q1
      · exact q1
      · obtain ⟨z2, h2, e⟩ := hacc (V.str z) (List.mem_map.mpr ⟨z, q1, rfl⟩)
        rw [V.str.inj e]
        exact h2
end
end L2.K2


namespace L2.K2
open PySem L2 L2.Bv L2.Pc L2.Ts PyProof.Rows
/-- parts of a def's text, by place -/
def bodyAt (b : List Stmt) (i : Nat) : List Stmt := match b[i]? with
  | some (.For _ _ c _ _) => c
  | some (.If _ c _ _) => c
  | _ => []
def testAt (b : List Stmt) (i : Nat) : Expr := match b[i]? with
  | some (.If t _ _ _) => t
  | _ => .Constant .none 0 ⟨0, 0, 0, 0⟩
def boolL : Expr → Expr
  | .BoolOp _ (e :: _) _ => e
  | e => e
def cmpL : Expr → Expr
  | .Compare l _ _ _ => l
  | e => e
abbrev sPact : Stmt := top 50
abbrev nPact : List Str := ["heap", "most", "hands", "names", "notes", "hand", "ready", "below", "paper", "own", "note", "one", "name"]
theorem scPk : FnScope nPact ["heap", "most"] (defScope sPact) := ⟨rfl, rfl, rfl, by decide +kernel, rfl, by decide +kernel, by decide +kernel⟩
/-- the parts of a pact, as a law draws them: all off the places of S -/
structure PtAt (S : Addr → Prop) (H : Hp) (p h n r pp : Addr) (hs : List Str) (xs : List V) (ns : List Nt) (rs ps : List Str) : Prop where
  ep : H p = some (.tup [.ref h, .ref n, .ref r, .ref pp])
  eh : H h = some (.lst (hs.map V.str))
  en : H n = some (.lst xs)
  nt : xs.length = ns.length ∧ ∀ (i : Nat) (v : V), xs[i]? = some v → ∃ a q : Addr, v = .ref a ∧ ¬ S a ∧ ¬ S q ∧ H a = some (.tup [.str (nameAt ns i), .str (handAt ns i), .ref q]) ∧ H q = some (.tup ((waitAt ns i).map V.str))
  er : H r = some (.lst (rs.map V.str))
  epp : H pp = some (.tup (ps.map V.str))
  off : ¬ S p ∧ ¬ S h ∧ ¬ S n ∧ ¬ S r ∧ ¬ S pp
theorem ifBy {c : TT} {t r : TS} {D : Ends} {σ : St} {H : Hp} (Pv Nv : Hp → Prop) (yes : ∀ H1, Pv H1 → t D σ H1) (no : ∀ H1, Nv H1 → r D σ H1)
    (go : (∀ H1, Pv H1 → t D σ H1) → (∀ H1, Nv H1 → r D σ H1) → c σ H fun b H1 => if b = true then t D σ H1 else r D σ H1) : tIfS c t r D σ H := go yes no
theorem cutAny (nms : List Str) (lo hi : Option Int) : ∃ ws : List Str, cutV (nms.map V.str) lo hi = ws.map V.str ∧ (∀ x ∈ ws, x ∈ nms) ∧ ws.length ≤ nms.length := by
  refine ⟨(nms.drop (HT.sIx nms.length 0 lo)).take (HT.sIx nms.length nms.length hi - HT.sIx nms.length 0 lo), ?_, fun x hx => List.mem_of_mem_drop (List.mem_of_mem_take hx), ?_⟩
  · unfold cutV
    rw [List.length_map, List.map_take, List.map_drop]
  · rw [List.length_take, List.length_drop]
    omega
theorem eqMap {zs : List Str} : (zs.map V.str = []) ↔ zs = [] := by
  cases zs with
  | nil => simp
  | cons z r => simp
theorem DealAt.ofSame {dl cl : Addr} {H H' : Hp} (D : DealAt H dl cl) (s : Same H H') : DealAt H' dl cl := by
  obtain ⟨cs, m, a1, a2, a3⟩ := D.ex
  exact ⟨cs, m, s _ _ a1, s _ _ a2, a3⟩
theorem getMap {α : Type} (f : α → Str) (l : List α) (d : α) {q : Nat} (h : q < l.length) : (l.map f).getD q Str.empty = f (l.getD q d) := by
  rw [List.getD_eq_getElem?_getD, List.getElem?_map, List.getElem?_eq_getElem h, List.getD_eq_getElem?_getD, List.getElem?_eq_getElem h]
  rfl
def strsP (zs : List Str) : PyData := .list (zs.map PyData.str)
theorem dpStrs {K : PySem.W.Frag} {H : Hp} : ∀ zs : List Str, DpAll K H (zs.map V.str) (zs.map PyData.str)
  | [] => .nil
  | z :: r => .cons (.str z) (dpStrs r)
theorem nmOk {z : Str} (h : IsNm z) : PyData.strOk z = true := by
  have all : ∀ c ∈ lowCs, c < 0x110000 := by decide
  unfold PyData.strOk
  rw [← Array.all_toList]
  exact List.all_eq_true.mpr fun c hc => decide_eq_true (all c (h.2.2 c hc))
theorem layStrs : ∀ zs : List Str, (∀ z ∈ zs, IsNm z) → PyData.canLayAll0 (zs.map PyData.str) = true
  | [], _ => by simp [PyData.canLayAll0]
  | z :: r, h => by simp [PyData.canLayAll0, PyData.canLay0, nmOk (h z List.mem_cons_self), layStrs r fun y hy => h y (List.mem_cons_of_mem _ hy)]
theorem depStrs : ∀ zs : List Str, PyData.depthAll (zs.map PyData.str) = 0
  | [] => by simp [PyData.depthAll]
  | z :: r => by simp [PyData.depthAll, PyData.depth, depStrs r]
theorem shStrs {zs : List Str} (h : ∀ z ∈ zs, IsNm z) : SeqAt.shaped (strsP zs) = true := by
  simp [strsP, SeqAt.shaped, PyData.canLay0, PyData.depth, layStrs zs h, depStrs]
theorem eqvNilP (zs : List Str) : PyData.eqv (strsP zs) (.list []) = decide (zs = []) := by
  cases zs with
  | nil => simp [strsP, PyData.eqv, PyData.eqvAll]
  | cons n r => simp [strsP, PyData.eqv, PyData.eqvAll]
def spPact : Sp := fun vs H Q _ => ∃ (dl cl : Addr) (m : Nat) (S : Addr → Prop), vs = [.ref dl, nV m] ∧ DealAt H dl cl ∧ Al S H ∧ 6 ≤ m ∧ m ≤ 40 ∧
  ∀ (p h n r pp : Addr) (hs : List Str) (xs : List V) (ns : List Nt) (rs ps : List Str) (H' : Hp), PtAt S H' p h n r pp hs xs ns rs ps → PkOk hs ns rs ps → DealAt H' dl cl → Keep dl cl H H' → Q (.ref p) H'
section
variable {X : Cx} {K : PySem.W.Frag}
theorem neDK (hK : X.K = K) (hu : X.A.units + 64 < cLine) : OpR X (compareOp .NotEq) (rNeD K) := hK ▸ op_neD hu
theorem eqDK (hK : X.K = K) (hu : X.A.units + 64 < cLine) : OpR X (compareOp .Eq) (rEqD K) := hK ▸ op_eqD hu
end
section
variable {P : Program} {w : World} {K : PySem.W.Frag} {mg : Str → Option Value} {base : Heap}
theorem ok_pact {f : Addr} {fd : FuncData} (F : Fun K "_law_pact" "_law_pact" sPact f fd) (G : Dn P w K mg base 1 "_law_draw" ["heap", "many"] spAny) (O : Dn P w K mg base 2 "_law_pick" ["heap", "some"] spOf) (M : Dn P w K mg base 2 "_law_mixed" ["heap", "some"] (spMixed K))
    (Nm : Dn P w K mg base 3 "_law_names" ["heap", "many"] spNames) (Nt : Dn P w K mg base 3 "_law_notes" ["heap", "hands", "names"] (spNotes K)) (U : Dn P w K mg base 1 "_law_unders" ["notes"] (spUnders K))
    (mn : mg "len" = none) (mt : mg "tuple" = none) (ms : mg "set" = none) (mS : mg "sorted" = none) : FnOk P w K mg base CX0 4 f fd ["heap", "most"] spPact := by
  obtain ⟨g, gd, G, kG, bG, mG⟩ := G.ex
  obtain ⟨o, od, O, kO, bO, mO⟩ := O.ex
  obtain ⟨m0, md, M, kM, bM, mM⟩ := M.ex
  obtain ⟨n0, nd0, Nm, kN, bN, mN⟩ := Nm.ex
  obtain ⟨t0, td, Nt, kT, bT, mT⟩ := Nt.ex
  obtain ⟨u0, ud, U, kU, bU, mU⟩ := U.ex
  refine F.ok scPk (fun vs H Q E h => ?_) (fun cdv A outer s H vs Q E hr h => ?_)
  · obtain ⟨dl, cl, m, S, rfl, _⟩ := h
    rfl
  obtain ⟨dl, cl, m, S, rfl, D, al, m6, m40, q⟩ := h
  have hu := hu_of hr
  have huu := hr.units
  have hr1 : Room 1 _ := hr.mono (by decide)
  have hr2 : Room 2 _ := hr.mono (by decide)
  refine ⟨_, pss_cons (ps_set (i := 2) scPk.nd rfl (Or.inl rfl) (pe_call Nm hr rfl mN kN bN .nil pass0 (pa_cons (pv 0) (pa_cons (pe_call O hr2 rfl mO kO bO .nil pass0 (pa_cons (pv 0) (pa_cons (pe_lst (pa_cons pe_int (pa_cons pe_int (pa_cons pe_int (pa_cons pe_int (pa_cons pe_int (pa_cons pe_int (pa_cons pe_int (pa_cons pe_int pa_nil))))))))) pa_nil))) pa_nil))))
    (pss_cons (ps_set (i := 3) scPk.nd rfl (Or.inl rfl) (pe_call Nm hr rfl mN kN bN .nil pass0 (pa_cons (pv 0) (pa_cons (pe_op op_add (pe_callB call_len_seq (by rfl) mn PySem.boot_len (pa_cons (pv 2) pa_nil)) (pe_call G hr1 rfl mG kG bG .nil pass0 (pa_cons (pv 0) (pa_cons (pe_op op_sub (pe_op op_add (pv 1) pe_int) (pe_callB call_len_seq (by rfl) mn PySem.boot_len (pa_cons (pv 2) pa_nil))) pa_nil)))) pa_nil))))
    (pss_cons (ps_if (PW.pt (pw_and (pt_cmpR op_eq (pe_call G hr1 rfl mG kG bG .nil pass0 (pa_cons (pv 0) (pa_cons pe_int pa_nil))) pe_int (nomark _)) (pw_and1 (pt_cmpR op_notIn_seq (pe_ix ix_list (pv 2) pe_int (fun _ _ => rfl)) (pv 3) (by rfl)))))
      (pss_one (ps_set (i := 3) scPk.nd rfl (Or.inl rfl) (pe_op op_cat (pe_lst (pa_cons (pe_ix ix_list (pv 2) pe_int (fun _ _ => rfl)) pa_nil)) (pe_slice sl_list (pv 3) (po_some pe_int) po_none)))) pss_nil)
    (pss_cons (ps_set (i := 4) scPk.nd rfl (Or.inr rfl) (pe_call Nt hr rfl mT kT bT .nil pass0 (pa_cons (pv 0) (pa_cons (pv 2) (pa_cons (pv 3) pa_nil)))))
    (pss_cons (ps_setLc (i := 6) (own := [("hand", 5)]) (g := gName 5) (tt := tYes) rfl scPk.nd rfl rfl (sw_true rfl rfl rfl (by decide +kernel)) (pi_list (pv 2)) (blkOk_by (N := nPact) (sc := defScope sPact) (by decide +kernel)) (fun _ _ _ _ _ => pg_name (i := 5) scPk.nd rfl (Or.inr rfl)) (fun _ _ _ _ _ => pts_nil)
      (fun _ _ _ _ _ => pe_call O hr2 rfl mO kO bO .nil pass0 (pa_cons (pv 0) (pa_cons (pe_lc (own := [("note", 10)]) (g := gName 10) (tt := _) rfl scPk.nd (pi_listK (K := K) rfl (pv 4)) (blkOk_by (N := nPact) (sc := relSc (defScope sPact) (lcSc (asgOf sPact 4))) (by decide +kernel))
        (fun _ _ _ _ _ => pg_name (i := 10) scPk.nd rfl (Or.inl rfl)) (fun _ _ _ _ _ => pts_one (pt_cmpR op_eq (pe_ix (ixTupK (K := K) rfl) (pv 10) pe_int (fun _ _ => rfl)) (pv 5) (nomark _))) (fun _ _ _ _ _ => pe_ix (ixTupK (K := K) rfl) (pv 10) pe_int (fun _ _ => rfl))) pa_nil))))
    (pss_cons (ps_asg (pe_tup (pa_cons (pe_call U hr1 rfl mU kU bU .nil pass0 (pa_cons (pv 4) pa_nil)) (pa_cons (pe_ifExp (pt_cmpR op_eq (pe_call G hr1 rfl mG kG bG .nil pass0 (pa_cons (pv 0) (pa_cons pe_int pa_nil))) pe_int (nomark _)) (pe_slice sl_list (pv 3) (po_some (pe_un un_neg pe_int)) po_none) (pe_lst pa_nil)) pa_nil)))
      (pg_tup rfl (pgs_cons (pg_name (i := 7) scPk.nd rfl (Or.inr rfl)) (pgs_cons (pg_name (i := 8) scPk.nd rfl (Or.inl rfl)) pgs_nil))))
    (pss_cons (ps_for PassesOwn.never rfl (pi_list (pe_call M hr2 rfl mM kM bM .nil pass0 (pa_cons (pv 0) (pa_cons (pv 2) pa_nil)))) (pg_name (i := 5) scPk.nd rfl (Or.inr rfl))
      (pss_cons (ps_set (i := 9) scPk.nd rfl (Or.inr rfl) (pe_lc (own := [("note", 10)]) (g := gName 10) (tt := _) rfl scPk.nd (pi_list (pv 4)) (blkOk_by (N := nPact) (sc := defScope sPact) (by decide +kernel))
        (fun _ _ _ _ _ => pg_name (i := 10) scPk.nd rfl (Or.inl rfl)) (fun _ _ _ _ _ => pts_one (pt_cmpR op_eq (pe_ix (ixTupK (K := K) rfl) (pv 10) pe_int (fun _ _ => rfl)) (pv 5) (nomark _))) (fun _ _ _ _ _ => pe_ix (ixTupK (K := K) rfl) (pv 10) pe_int (fun _ _ => rfl))))
      (pss_one (ps_if (PW.pt (pw_or (pt_cmpR (op_eqD huu) (pe_lc (own := [("one", 11)]) (g := gName 11) (tt := _) rfl scPk.nd (pi_list (pv 8)) (blkOk_by (N := nPact) (sc := defScope sPact) (by decide +kernel)) (fun _ _ _ _ _ => pg_name (i := 11) scPk.nd rfl (Or.inr rfl))
          (fun _ _ _ _ _ => pts_one (pt_cmpR (neDK (K := K) rfl huu) (pe_lc (own := [("name", 12)]) (g := gName 12) (tt := _) rfl scPk.nd (pi_listK (K := K) rfl (pv 9)) (blkOk_by (N := nPact) (sc := relSc (defScope sPact) (lcSc (cmpL (boolL (testAt (bodyAt (defBody sPact) 6) 1))))) (by decide +kernel)) (fun _ _ _ _ _ => pg_name (i := 12) scPk.nd rfl (Or.inl rfl))
            (fun _ _ _ _ _ => pts_one (pt_cmpR (inSeqK (K := K) rfl) (pv 12) (pe_dget hu (pv 7) (pv 11) (fun _ _ => rfl)) (by rfl))) (fun _ _ _ _ _ => pv 12)) (pe_lst pa_nil) (nomark _))) (fun _ _ _ _ _ => pv 11)) (pe_lst pa_nil) (nomark _))
          (pw_or1 (pt_cmpR op_eq (pe_call G hr1 rfl mG kG bG .nil pass0 (pa_cons (pv 0) (pa_cons pe_int pa_nil))) pe_int (nomark _)))))
        (pss_one (ps_expr (pe_bm PySem.F.plainAttrs_list PySem.F.slot_list_append PySem.F.type_list_append mt_append (pv 8) (pa_cons (pe_call O hr2 rfl mO kO bO .nil pass0 (pa_cons (pv 0) (pa_cons (pv 9) pa_nil))) pa_nil)))) pss_nil))))
    (pss_one (ps_ret (pe_tup (pa_cons (pv 2) (pa_cons (pv 4) (pa_cons (pv 6) (pa_cons (pe_callTy call_tuple_of (by rfl) mt (by decide +kernel) (pa_cons (pe_callB (cr_sortT rfl) (by rfl) mS (by decide +kernel) (pa_cons (pe_callTy (cr_setT rfl) (by rfl) ms (by decide +kernel) (pa_cons (pv 8) pa_nil)) pa_nil)) pa_nil)) pa_nil))))))))))))), ?_⟩
  -- the hands
  refine ⟨_, rfl, _, rfl, (by show 8 ≤ sizeLine; decide), fun l0 hl0 => ?_⟩
  obtain ⟨l0d, l0c⟩ := dealOff D hl0
  refine ⟨dl, cl, _, rfl, D.new _ hl0, .inl ⟨l0, _, rfl, l0d, l0c, upd_same, (by show 1 ≤ 8; decide), (by show 8 ≤ 1000; decide), fun i0 v0 H1 hi0 D1 k1 => ?_⟩⟩
  have k1 : Keep dl cl H H1 := (Keep.new _ hl0).trans k1
  obtain ⟨a, rfl, a2, a6⟩ : ∃ a : Nat, v0 = .int a ∧ 2 ≤ a ∧ a ≤ 6 := by
    match i0, hi0 with
    | 0, hi => exact ⟨2, (Option.some.inj hi).symm, by decide, by decide⟩
    | 1, hi => exact ⟨2, (Option.some.inj hi).symm, by decide, by decide⟩
    | 2, hi => exact ⟨2, (Option.some.inj hi).symm, by decide, by decide⟩
    | 3, hi => exact ⟨3, (Option.some.inj hi).symm, by decide, by decide⟩
    | 4, hi => exact ⟨3, (Option.some.inj hi).symm, by decide, by decide⟩
    | 5, hi => exact ⟨3, (Option.some.inj hi).symm, by decide, by decide⟩
    | 6, hi => exact ⟨4, (Option.some.inj hi).symm, by decide, by decide⟩
    | 7, hi => exact ⟨6, (Option.some.inj hi).symm, by decide, by decide⟩
    | i + 8, hi => cases hi
  refine ⟨dl, cl, a, rfl, D1, a2, by omega, fun h hs H2 nh1 e2 lh nd2 nm2 D2 k2 => ?_⟩
  have nh : H h = none := noneBack k1 D1 nh1
  obtain ⟨hd1, hc1⟩ := dealOff D nh
  have k12 : Keep dl cl H H2 := k1.trans k2
  have hok : HdOk hs := ⟨by omega, by omega, nd2, nm2⟩
  have lhs : (hs.map V.str).length = hs.length := List.length_map _
  -- the names
  refine ⟨_, rfl, _, rfl, h, _, rfl, .inl (SqL.of e2), _, rfl, _, rfl, _, _, rfl, rfl, _, rfl, h, _, rfl, .inl (SqL.of e2), _, _, rfl, rfl, dl, cl, _, rfl, D2, by omega, by omega, fun r3 H3 r30 r31 D3 k3 => ?_⟩
  obtain ⟨b3, rfl⟩ := Int.eq_ofNat_of_zero_le r30
  refine ⟨_, _, rfl, rfl, dl, cl, hs.length + b3, by rw [lhs] <;> rfl, D3, by omega, by omega, fun nl nms H4 nn4 e4 ln nd4 nm4 D4 k4 => ?_⟩
  have k24 : Keep dl cl H2 H4 := k3.trans k4
  have k14 : Keep dl cl H H4 := k12.trans k24
  have nn : H nl = none := noneBack (k12.trans k3) D3 nn4
  have e24 := k24 _ _ hd1 hc1 e2
  have hnl : h ≠ nl := fun z => by
    rw [← z] at nn4
    rw [k3 _ _ hd1 hc1 e2] at nn4
    cases nn4
  obtain ⟨nd1, nc1⟩ := dealOff D nn
  -- perhaps a hand's name
  dsimp only [gName]
  refine seqBy (fun σ1 H5 => ∃ (nl : Addr) (nms : List Str), σ1 = [some (.ref dl), some (nV m), some (.ref h), some (.ref nl), none, none, none, none, none, none, none, none, none] ∧ DealAt H5 dl cl ∧ Keep dl cl H H5 ∧ H5 h = some (.lst (hs.map V.str)) ∧ H5 nl = some (.lst (nms.map V.str)) ∧ H nl = none ∧
    nms.Nodup ∧ (∀ z ∈ nms, IsNm z) ∧ hs.length ≤ nms.length ∧ nms.length ≤ 40) ?_ ?_
  · clear e4 ln nd4 nm4 k24 nn hnl nd1 nc1 nn4 k14 e24 D4 k4
    rintro σ1 H5 ⟨nl, nms, rfl, D5, k5, eh5, en5, nn, ndn, nmn, ln1, ln2⟩
    obtain ⟨nl1, nl2⟩ := dealOff D nn
    -- the notes
    refine ⟨_, rfl, _, rfl, _, rfl, dl, cl, h, nl, hs, nms, rfl, D5, eh5, en5, ⟨hd1, hc1, nl1, nl2⟩, hok, ndn, ln1, ln2, fun n xs ns H6 nn6 e6 nn6' dr cov D6 k6 => ?_⟩
    have k06 : Keep dl cl H H6 := k5.trans k6
    have nnH : H n = none := noneBack k5 D5 nn6
    obtain ⟨nn1, nn2⟩ := dealOff D nnH
    have eh6 := k6 _ _ hd1 hc1 eh5
    have en6 := k6 _ _ nl1 nl2 en5
    have lns : ns.length = nms.length := by
      rw [← dr.nm, List.length_map]
    have lx : xs.length = ns.length := nn6'.1
    have ntk : NtOk ns := ⟨by rw [dr.nm]; exact ndn, dr.wt, fun j hj => (dr.ris j hj).nd⟩
    have nmA : ∀ k, k < ns.length → nameAt ns k ∈ nms := fun k lk => by
      rw [← dr.nm, nameMap]
      exact List.mem_map.mpr ⟨k, List.mem_range.mpr lk, rfl⟩
    have nmB : ∀ z ∈ nms, ∃ k, k < ns.length ∧ nameAt ns k = z := fun z hz => by
      rw [← dr.nm, nameMap] at hz
      obtain ⟨k, a, b⟩ := List.mem_map.mp hz
      exact ⟨k, List.mem_range.mp a, b⟩
    -- what the notes are at a later heap
    have ntA : ∀ H', Keep dl cl H6 H' → ∀ (i : Nat) (v : V), xs[i]? = some v → ∃ a q : Addr, v = .ref a ∧ H a = none ∧ H q = none ∧ H' a = some (.tup [.str (nameAt ns i), .str (handAt ns i), .ref q]) ∧ H' q = some (.tup ((waitAt ns i).map V.str)) := fun H' k' i v hv => by
      obtain ⟨a, q, e, a1, a2, a3, a4⟩ := nn6'.2 i v hv
      have b1 := noneBack k5 D5 a1
      have b2 := noneBack k5 D5 a2
      obtain ⟨c1, c2⟩ := dealOff D b1
      obtain ⟨c3, c4⟩ := dealOff D b2
      exact ⟨a, q, e, b1, b2, k' _ _ c1 c2 a3, k' _ _ c3 c4 a4⟩
    have en6n := e6
    dsimp only [gName]
    -- the ready notes
    refine seqBy (fun σ1 H7 => ∃ (r : Addr) (rs : List Str), σ1 = [some (.ref dl), some (nV m), some (.ref h), some (.ref nl), some (.ref n), none, some (.ref r), none, none, none, none, none, none] ∧ DealAt H7 dl cl ∧ Keep dl cl H6 H7 ∧ H7 r = some (.lst (rs.map V.str)) ∧ H r = none ∧ rs.length = hs.length ∧
      ∀ (i : Nat) (z : Str), rs[i]? = some z → ∃ k, k < ns.length ∧ nameAt ns k = z ∧ hs[i]? = some (handAt ns k)) ?_ ?_
    · rintro σ1 H7 ⟨r, rs, rfl, D7, k7, e7, nr, lr, rd⟩
      have k07 : Keep dl cl H H7 := k06.trans k7
      obtain ⟨nr1, nr2⟩ := dealOff D nr
      have nt7 : NotesAt K H7 xs ns := ⟨lx, fun i v hv => let ⟨a, q, e, _, _, a3, a4⟩ := ntA H7 k7 i v hv; ⟨a, q, e, SqT.of a3, SqT.of a4⟩⟩
      -- what lies under, and the paper's first notes
      refine seqBy (fun σ1 H8 => ∃ (b pl : Addr) (kvs : List (Key × V)) (ps : List Str), σ1 = [some (.ref dl), some (nV m), some (.ref h), some (.ref nl), some (.ref n), none, some (.ref r), some (.ref b), some (.ref pl), none, none, none, none] ∧ DealAt H8 dl cl ∧ Keep dl cl H7 H8 ∧ H7 b = none ∧ H8 b = some (.dK kvs) ∧ FoundOk ns H7 H8 kvs ns.length ∧
        H7 pl = none ∧ pl ≠ b ∧ H8 pl = some (.lst (ps.map V.str)) ∧ (∀ x ∈ ps, x ∈ nms) ∧ ps.length ≤ 40 ∧ ∀ j, j < ns.length → ∀ c, valV kvs (.inr (nameAt ns j)) = some (V.ref c) → c ≠ pl) ?_ ?_
      · rintro σ1 H8 ⟨b, pl, kvs, ps, rfl, D8, k8, nb, eb, fk, npl, plb, epl, psn, lps, cpl⟩
        have k08 : Keep dl cl H H8 := k07.trans k8
        have k68 : Keep dl cl H6 H8 := k7.trans k8
        obtain ⟨b1, b2⟩ := dealOff D7 nb
        obtain ⟨pl1, pl2⟩ := dealOff D7 npl
        have plH : H pl = none := noneBack k07 D7 npl
        have eh8 := k08
        have hh8 : H8 h = some (.lst (hs.map V.str)) := k68 _ _ hd1 hc1 eh6
        refine ⟨_, rfl, _, rfl, dl, cl, h, _, rfl, D8, SqL.of hh8, by omega, fun ml ys H9 nml pm e9 D9 k9 => ?_⟩
        obtain ⟨zs, rfl, pz⟩ := strPerm pm
        have lzs : zs.length = hs.length := pz.length_eq
        have lym : (zs.map V.str).length = zs.length := List.length_map _
        obtain ⟨ml1, ml2⟩ := dealOff D8 nml
        have mlpl : ml ≠ pl := fun z => by
          rw [z, epl] at nml
          cases nml
        have epl9 := k9 _ _ pl1 pl2 epl
        have k09 : Keep dl cl H H9 := k08.trans k9
        let S3 : Addr → Prop := fun x => x = dl ∨ x = cl ∨ x = pl
        have toK : ∀ H', KS S3 H9 H' → Keep dl cl H H' := fun H' k x u x1 x2 e => by
          refine k x u (fun z => ?_) (k09 x u x1 x2 e)
          rcases z with z | z | z
          · exact x1 z
          · exact x2 z
          · rw [z, plH] at e
            cases e
        have dS : ∀ {A B : Hp}, Keep dl cl A B → KS S3 A B := fun k => k.ks (.inl rfl) (.inr (.inl rfl))
        have off3 : ∀ {x : Addr}, x ≠ dl → x ≠ cl → x ≠ pl → ¬ S3 x := fun a b c z => by
          rcases z with z | z | z
          · exact a z
          · exact b z
          · exact c z
        have npn : n ≠ pl := fun z => by
          have e := k7 _ _ nn1 nn2 e6
          rw [z, npl] at e
          cases e
        have en9 := (k68.trans k9) _ _ nn1 nn2 e6
        have eb9 := k9 _ _ b1 b2 eb
        have ntB : ∀ H', KS S3 H9 H' → ∀ (i : Nat) (v : V), xs[i]? = some v → ∃ a q : Addr, v = .ref a ∧ H a = none ∧ H q = none ∧ H' a = some (.tup [.str (nameAt ns i), .str (handAt ns i), .ref q]) ∧ H' q = some (.tup ((waitAt ns i).map V.str)) := fun H' k' i v hv => by
          obtain ⟨a, q, e, a1, a2, a3, a4⟩ := ntA H7 k7 i v hv
          obtain ⟨c1, c2⟩ := dealOff D a1
          obtain ⟨c3, c4⟩ := dealOff D a2
          have a5 := (k8.trans k9) _ _ c1 c2 a3
          have a6 := (k8.trans k9) _ _ c3 c4 a4
          refine ⟨a, q, e, a1, a2, k' _ _ (off3 c1 c2 fun z => ?_) a5, k' _ _ (off3 c3 c4 fun z => ?_) a6⟩
          · rw [z, npl] at a3
            cases a3
          · rw [z, npl] at a4
            cases a4
        have fkB : ∀ H', KS S3 H9 H' → FoundOk ns H7 H' kvs ns.length := fun H' k' j lt => by
          obtain ⟨c, bs, a1, a2, a3, a4⟩ := fk j lt
          obtain ⟨c1, c2⟩ := dealOff D7 a3
          exact ⟨c, bs, a1, k' _ _ (off3 c1 c2 (cpl j lt c a1)) (k9 _ _ c1 c2 a2), a3, a4⟩
        refine ⟨ml, rfl, ⟨_, SqL.of e9⟩, for_list (K := K) (a := ml) (xs := zs.map V.str) (fun i σ H' => ∃ (t5 t9 : Option V) (ps : List Str), σ = [some (.ref dl), some (nV m), some (.ref h), some (.ref nl), some (.ref n), t5, some (.ref r), some (.ref b), some (.ref pl), t9, none, none, none] ∧ DealAt H' dl cl ∧ KS S3 H9 H' ∧
          H' pl = some (.lst (ps.map V.str)) ∧ (∀ x ∈ ps, x ∈ nms) ∧ ps.length ≤ 40 + i ∧ ∀ j, j < i → ∃ k, k < ns.length ∧ handAt ns k = zs.getD j Str.empty ∧ ∃ j', j' < ns.length ∧ nameAt ns j' ∈ ps ∧ Und ns k j') ?_ ?_ ?_ ?_⟩
        · exact ⟨none, none, ps, rfl, D9, KS.refl, epl9, psn, by omega, fun j lt => absurd lt (by omega)⟩
        · rintro i σ H1 _ ⟨_, _, _, _, _, k, _⟩
          exact SqL.of (k _ _ (off3 ml1 ml2 mlpl) e9)
        · rintro i y σ H10 hy ⟨t5, t9, ps, rfl, D10, k10, ep10, psn, lps, cv⟩
          obtain ⟨z, hz, rfl⟩ := strGet hy
          have izs : i < zs.length := (List.getElem?_eq_some_iff.mp hz).1
          have ez : zs.getD i Str.empty = z := by rw [List.getD_eq_getElem?_getD, hz]; rfl
          have zin : z ∈ hs := pz.mem_iff.mp (List.mem_of_getElem? hz)
          have n10 := k10 _ _ (off3 nn1 nn2 npn) en9
          have b10 := k10 _ _ (off3 b1 b2 plb.symm) eb9
          dsimp only [gName]
          let os : List Str := (idx (own ns z) ns.length).map (nameAt ns)
          have los : os.length ≤ 40 := by
            have q1 := idx_len (own ns z) ns.length
            show ((idx (own ns z) ns.length).map (nameAt ns)).length ≤ 40
            rw [List.length_map]
            omega
          have osk : ∀ k, k < os.length → ∃ k', k' < ns.length ∧ handAt ns k' = z ∧ os.getD k Str.empty = nameAt ns k' := fun k lk => by
            have lk2 : k < (idx (own ns z) ns.length).length := by
              have q1 : os.length = (idx (own ns z) ns.length).length := List.length_map _
              omega
            obtain ⟨a, b⟩ := mem_idx.mp (List.getElem_mem lk2)
            refine ⟨_, a, own_t.mp b, ?_⟩
            rw [show os.getD k Str.empty = nameAt ns ((idx (own ns z) ns.length).getD k 0) from getMap (nameAt ns) _ 0 lk2, List.getD_eq_getElem?_getD, List.getElem?_eq_getElem lk2]
            rfl
          have osm : ∀ k, k < ns.length → handAt ns k = z → nameAt ns k ∈ os := fun k lk e => List.mem_map.mpr ⟨k, mem_idx.mpr ⟨lk, own_t.mpr e⟩, rfl⟩
          refine seqBy (fun σ1 H11 => ∃ ow : Addr, σ1 = [some (.ref dl), some (nV m), some (.ref h), some (.ref nl), some (.ref n), some (.str z), some (.ref r), some (.ref b), some (.ref pl), some (.ref ow), none, none, none] ∧ Same H10 H11 ∧ H10 ow = none ∧ H11 ow = some (.lst (os.map V.str))) ?_ ?_
          · rintro σ1 H11 ⟨ow, rfl, s11, now, eow⟩
            have D11 := DealAt.ofSame D10 s11
            have k11 : KS S3 H9 H11 := k10.trans (KS.of s11)
            have ep11 := s11 _ _ ep10
            have b11 := s11 _ _ b10
            obtain ⟨ow1, ow2⟩ := dealOff D10 now
            have owpl : ow ≠ pl := fun e => by
              rw [e, ep10] at now
              cases now
            let Hit : Nat → Prop := fun q => ∃ k, k < ns.length ∧ handAt ns k = z ∧ ∃ j, j < ns.length ∧ nameAt ns j = ps.getD q Str.empty ∧ Und ns k j
            refine ifBy (fun H1 => DealAt H1 dl cl ∧ Keep dl cl H11 H1) (fun H1 => DealAt H1 dl cl ∧ Keep dl cl H11 H1 ∧ ∃ q, q < ps.length ∧ Hit q) ?_ ?_ ?_
            · rintro H12 ⟨D12, k12⟩
              have ep12 := k12 _ _ pl1 pl2 ep11
              obtain ⟨k0, lk0, hk0⟩ := cov z zin
              have l1 : 1 ≤ (os.map V.str).length := by
                rw [List.length_map]
                exact List.length_pos_of_mem (osm k0 lk0 hk0)
              refine ⟨_, rfl, .inl ⟨rfl, _, SqL.of ep12⟩, _, rfl, _, rfl, dl, cl, _, rfl, D12, .inl ⟨ow, _, rfl, ow1, ow2, k12 _ _ ow1 ow2 eow, l1, by rw [List.length_map]; omega, fun a v H13 ha D13 k13 => ?_⟩⟩
              obtain ⟨x, hx, rfl⟩ := strGet ha
              have la : a < os.length := (List.getElem?_eq_some_iff.mp hx).1
              obtain ⟨k1', lk1, hk1, ek1⟩ := osk a la
              have ex : x = nameAt ns k1' := by
                rw [← ek1, List.getD_eq_getElem?_getD, hx]
                rfl
              have ep13 := k13 _ _ pl1 pl2 ep12
              refine ⟨_, _, _, rfl, rfl, ep13, small1000 (by rw [List.length_map]; omega), ?_⟩
              refine ⟨some (.str z), some (.ref ow), ps ++ [x], rfl, D13.new' pl1 pl2, ?_, ?_, ?_, ?_, ?_⟩
              · exact (k11.trans ((dS k12).trans (dS k13))).trans (KS.atS (.inr (.inr rfl)))
              · rw [upd_same, List.map_append]
                rfl
              · intro y hy
                rcases List.mem_append.mp hy with e | e
                · exact psn y e
                · rw [List.mem_singleton.mp e, ex]
                  exact nmA _ lk1
              · rw [List.length_append]
                have e1 : [x].length = 1 := rfl
                omega
              · intro j lj
                by_cases ji : j = i
                · subst ji
                  exact ⟨k1', lk1, by rw [hk1, ez], k1', lk1, List.mem_append.mpr (.inr (by rw [ex]; exact List.mem_singleton.mpr rfl)), .self _⟩
                · obtain ⟨k, a1, a2, j', a3, a4, a5⟩ := cv j (by omega)
                  exact ⟨k, a1, a2, j', a3, List.mem_append.mpr (.inl a4), a5⟩
            · rintro H12 ⟨D12, k12, q0, lq0, k0, lk0, hk0, j0, lj0, ej0, u0⟩
              refine ⟨some (.str z), some (.ref ow), ps, rfl, D12, k11.trans (dS k12), k12 _ _ pl1 pl2 ep11, psn, by omega, fun j lj => ?_⟩
              by_cases ji : j = i
              · subst ji
                refine ⟨k0, lk0, by rw [hk0, ez], j0, lj0, ?_, u0⟩
                rw [ej0, List.getD_eq_getElem?_getD, List.getElem?_eq_getElem lq0]
                exact List.getElem_mem lq0
              · exact cv j (by omega)
            · intro yes no
              refine ⟨_, rfl, pl, rfl, ⟨_, SqL.of ep11⟩, fun D3 hD3 => ?_⟩
              have lps2 : (ps.map V.str).length = ps.length := List.length_map _
              have hD3pl := ne_of_none ep11 hD3
              refine lcF (walk_list (K := K) (a := pl) (xs := ps.map V.str)) (fun q => @decide (Hit q) (Classical.propDecidable _)) (fun q => V.str (ps.getD q Str.empty)) hD3 (by omega) (fun H' s => SqL.of (s _ _ ep11)) ?_ ?_
              · rintro q y H12 _ KT KF hq s12 ⟨rfl, hy3⟩ kt kf
                obtain ⟨x, hx, rfl⟩ := strGet hy3
                have ex : ps.getD q Str.empty = x := by rw [List.getD_eq_getElem?_getD, hx]; rfl
                obtain ⟨j0, lj0, ej0⟩ := nmB x (psn x (List.mem_of_getElem? hx))
                obtain ⟨c, bs, v1, v2, _, bo⟩ := fkB _ (k11.trans (KS.of s12)) j0 lj0
                have b12 := s12 _ _ b11
                have los2 : (os.map V.str).length = os.length := List.length_map _
                refine ⟨rfl, _, rfl, ow, rfl, ⟨_, SqL.of (s12 _ _ eow)⟩, fun D4 hD4 => ?_⟩
                refine lcF (walk_list (K := K) (a := ow) (xs := os.map V.str)) (fun k => decide (os.getD k Str.empty ∈ bs)) (fun k => V.str (os.getD k Str.empty)) hD4 (by omega) (fun H' s => SqL.of (s _ _ (s12 _ _ eow))) ?_ ?_
                · rintro k y4 H13 _ KT2 KF2 hk s13 ⟨rfl, hy4⟩ kt2 kf2
                  obtain ⟨x2, hx2, rfl⟩ := strGet hy4
                  have ex2 : os.getD k Str.empty = x2 := by rw [List.getD_eq_getElem?_getD, hx2]; rfl
                  refine ⟨rfl, _, rfl, _, rfl, _, rfl, b, .ref c, rfl, (by have t := DGet.k (k := Sum.inr x) (s13 _ _ b12); rw [← ej0, v1] at t; rw [← ej0]; exact t), c, _, rfl, .inl (SqL.of (s13 _ _ v2)), rfl, flatStr bs, _, rfl, ?_⟩
                  refine ite2 (fun c2 => ⟨_, rfl, kt2 _ _ ?_ (Same.refl _) (by rw [ex2])⟩) (fun c2 => kf2 _ ?_ (Same.refl _))
                  · have c3 : inV (.str x2) (bs.map V.str) = true := c2
                    rw [inStr] at c3
                    rw [ex2]
                    exact c3
                  · rw [ex2]
                    refine decide_eq_false fun z2 => c2 ?_
                    show inV (.str x2) (bs.map V.str) = true
                    rw [inStr]
                    exact decide_eq_true z2
                · intro H13 s13 e13
                  rw [los2] at e13
                  let l : List Str := (idx (fun k => decide (os.getD k Str.empty ∈ bs)) os.length).map fun k => os.getD k Str.empty
                  have el : (idx (fun k => decide (os.getD k Str.empty ∈ bs)) os.length).map (fun k => V.str (os.getD k Str.empty)) = l.map V.str := by
                    show _ = ((idx (fun k => decide (os.getD k Str.empty ∈ bs)) os.length).map fun k => os.getD k Str.empty).map V.str
                    rw [List.map_map]
                    rfl
                  have lnm : ∀ y ∈ l, IsNm y := fun y hy => by
                    obtain ⟨k, hk, rfl⟩ := List.mem_map.mp hy
                    obtain ⟨k', a1, _, a3⟩ := osk k (mem_idx.mp hk).1
                    rw [a3]
                    exact nmn _ (nmA _ a1)
                  have iff : l ≠ [] ↔ Hit q := by
                    constructor
                    · intro ne
                      obtain ⟨y, hy⟩ := List.exists_mem_of_ne_nil l ne
                      obtain ⟨k, hk, rfl⟩ := List.mem_map.mp hy
                      obtain ⟨lk, dk⟩ := mem_idx.mp hk
                      obtain ⟨k', a1, a2, a3⟩ := osk k lk
                      have m := of_decide_eq_true dk
                      rw [a3] at m
                      exact ⟨k', a1, a2, j0, lj0, by rw [ej0, ex], (bo.has ntk a1 lj0).mp m⟩
                    · rintro ⟨k, lk, hk, j, lj, ej, u⟩ e
                      rw [ex, ← ej0] at ej
                      have jj := ntk.inj lj lj0 ej
                      rw [jj] at u
                      have m := (bo.has ntk lk lj0).mpr u
                      obtain ⟨a, la, ea⟩ := List.getElem_of_mem (osm k lk hk)
                      have m2 : os.getD a Str.empty ∈ bs := by
                        rw [List.getD_eq_getElem?_getD, List.getElem?_eq_getElem la]
                        show os[a] ∈ bs
                        rw [ea]
                        exact m
                      have m3 : os.getD a Str.empty ∈ l := List.mem_map.mpr ⟨a, mem_idx.mpr ⟨la, decide_eq_true m2⟩, rfl⟩
                      rw [e] at m3
                      cases m3
                  refine ⟨by show 0 ≤ sizeLine; decide, fun t ht => ⟨strsP l, .list [], .lst (SqL.of (by rw [← el]; exact smNew ht _ _ e13)) (dpStrs l), .lst (SqL.of upd_same) .nil, shStrs lnm, (shStrs (zs := []) fun _ h => by cases h), _, rfl, ?_⟩⟩
                  rw [eqvNilP]
                  refine ite2 (fun c2 => ⟨_, rfl, kt _ _ ?_ (s13.trans (smNew ht)) (by rw [ex])⟩) (fun c2 => kf _ ?_ (s13.trans (smNew ht)))
                  · refine @decide_eq_true _ (Classical.propDecidable _) (iff.mp fun e => ?_)
                    rw [decide_eq_true e] at c2
                    cases c2
                  · refine @decide_eq_false _ (Classical.propDecidable _) fun h => c2 ?_
                    rw [decide_eq_false (iff.mpr h)]
                    rfl
              · intro H12 s12 e12
                rw [lps2] at e12
                let l : List Str := (idx (fun q => @decide (Hit q) (Classical.propDecidable _)) ps.length).map fun q => ps.getD q Str.empty
                have el : (idx (fun q => @decide (Hit q) (Classical.propDecidable _)) ps.length).map (fun q => V.str (ps.getD q Str.empty)) = l.map V.str := by
                  show _ = ((idx (fun q => @decide (Hit q) (Classical.propDecidable _)) ps.length).map fun q => ps.getD q Str.empty).map V.str
                  rw [List.map_map]
                  rfl
                have lnm : ∀ y ∈ l, IsNm y := fun y hy => by
                  obtain ⟨k, hk, rfl⟩ := List.mem_map.mp hy
                  have lk := (mem_idx.mp hk).1
                  rw [List.getD_eq_getElem?_getD, List.getElem?_eq_getElem lk]
                  exact nmn _ (psn _ (List.getElem_mem lk))
                have hit : l ≠ [] → ∃ q, q < ps.length ∧ Hit q := fun ne => by
                  obtain ⟨y, hy⟩ := List.exists_mem_of_ne_nil l ne
                  obtain ⟨k, hk, rfl⟩ := List.mem_map.mp hy
                  obtain ⟨lk, dk⟩ := mem_idx.mp hk
                  exact ⟨k, lk, @of_decide_eq_true _ (Classical.propDecidable _) dk⟩
                refine ⟨by show 0 ≤ sizeLine; decide, fun t ht => ⟨strsP l, .list [], .lst (SqL.of (by rw [← el]; exact smNew ht _ _ e12)) (dpStrs l), .lst (SqL.of upd_same) .nil, shStrs lnm, (shStrs (zs := []) fun _ h => by cases h), _, rfl, ?_⟩⟩
                have s12t := s12.trans (smNew (o := .lst []) ht)
                have D12 := DealAt.ofSame D11 s12t
                have k12 : Keep dl cl H11 (upd H12 t (.lst [])) := fun x o _ _ e => s12t x o e
                rw [eqvNilP]
                refine ite2 (fun c2 => iteT (yes _ ⟨D12, k12⟩)) (fun c2 => ?_)
                have ne : l ≠ [] := fun e => c2 (by rw [decide_eq_true e])
                refine ⟨_, rfl, dl, cl, _, rfl, D12, by decide, by decide, fun r13 H13 _ _ D13 k13 => ⟨rfl, _, rfl, ?_⟩⟩
                exact ite2 (fun c3 => yes _ ⟨D13, k12.trans k13⟩) (fun c3 => no _ ⟨D13, k12.trans k13, hit ne⟩)
          · intro nx
            refine ⟨_, rfl, n, rfl, ⟨_, SqL.of n10⟩, fun D2 hD2 => ?_⟩
            refine lcF (walk_list (K := K) (a := n) (xs := xs)) (own ns z) (fun k => V.str (nameAt ns k)) hD2 (by omega) (fun H' s => SqL.of (s _ _ n10)) ?_ ?_
            · rintro k y2 H11 _ KT2 KF2 hk s11 ⟨rfl, hy2⟩ kt2 kf2
              obtain ⟨p1, q1, rfl, _, _, hp, _⟩ := ntB _ k10 k y2 hy2
              have hp9 := SqT.of (K := K) (s11 _ _ hp)
              refine ⟨rfl, _, rfl, _, _, _, _, rfl, rfl, hp9, rfl, _, rfl, rfl, _, rfl, ?_⟩
              refine ite2 (fun c1 => ?_) (fun c1 => kf2 _ ?_ (Same.refl _))
              · exact ⟨_, rfl, _, _, _, _, rfl, rfl, hp9, rfl, kt2 _ _ (own_t.mpr (V.str.inj (of_decide_eq_true c1))) (Same.refl _) rfl⟩
              · cases h0 : own ns z k with
                | false => rfl
                | true => exact absurd (decide_eq_true (congrArg V.str (own_t.mp h0))) c1
            · intro H11 s11 e11
              rw [lx] at e11
              refine nx _ _ ⟨D2, rfl, s11, hD2, ?_⟩
              rw [e11]
              show _ = some (HO.lst (((idx (own ns z) ns.length).map (nameAt ns)).map V.str))
              rw [List.map_map]
              rfl
        · rintro σ H10 ⟨t5, t9, ps, rfl, D10, k10, ep10, psn, lps, cv⟩
          rw [lym] at lps cv
          have lon := once_len ps
          refine ⟨_, rfl, _, rfl, _, rfl, _, rfl, pl, ps, rfl, SqL.of ep10, by omega, fun t ht => ⟨t, once ps, rfl, upd_same, by omega, fun qs p pm2 so hp => ⟨p, _, rfl, .inl ⟨SqL.of upd_same, fun pp hpp => ⟨by show 4 ≤ sizeLine; decide, fun T hT => ?_⟩⟩⟩⟩⟩
          have s1 := smNew (o := TSo P w t (once ps)) ht
          have s2 := s1.trans (smNew (o := .lst (qs.map V.str)) hp)
          have s3 := s2.trans (smNew (o := .tup (qs.map V.str)) hpp)
          have s4 := s3.trans (smNew (o := .tup [V.ref h, V.ref n, V.ref r, V.ref pp]) hT)
          have kH := toK _ k10
          have ppH : H pp = none := noneBack kH D10 (s2.free hpp)
          have TH : H T = none := noneBack kH D10 (s3.free hT)
          have hpl : h ≠ pl := fun z => by
            have e := k7 _ _ hd1 hc1 eh6
            rw [z, npl] at e
            cases e
          have rpl : r ≠ pl := fun z => by
            rw [z, npl] at e7
            cases e7
          have h10 := k10 _ _ (off3 hd1 hc1 hpl) (k9 _ _ hd1 hc1 hh8)
          have n10 := k10 _ _ (off3 nn1 nn2 npn) en9
          have r10 := k10 _ _ (off3 nr1 nr2 rpl) ((k8.trans k9) _ _ nr1 nr2 e7)
          have mem : ∀ x, x ∈ qs ↔ x ∈ ps := fun x => by rw [pm2.mem_iff, once_mem]
          have ppk : PpOk ns hs qs := ⟨rising_of so (pm2.nodup_iff.mpr (once_nodup ps)), fun x hx => nmB x (psn x ((mem x).mp hx)), fun y hy => by
            obtain ⟨j, lj, ej⟩ := List.getElem_of_mem (pz.mem_iff.mpr hy)
            obtain ⟨k, a1, a2, j', a3, a4, a5⟩ := cv j lj
            refine ⟨k, a1, ?_, j', a3, (mem _).mpr a4, a5⟩
            rw [a2, List.getD_eq_getElem?_getD, List.getElem?_eq_getElem lj]
            exact ej⟩
          refine q T h n r pp hs xs ns rs qs _ ⟨upd_same, s4 _ _ h10, s4 _ _ n10, ⟨lx, fun i v hv => ?_⟩, s4 _ _ r10, ?_, al.off TH, al.off nh, al.off nnH, al.off nr, al.off ppH⟩ ⟨hok, ntk, by omega, by omega, fun i hi => nmn _ (nmA i hi), dr.hin, dr.ris, lr, rd, ppk⟩ (DealAt.ofSame D10 s4) ?_
          · obtain ⟨a, q1, e, a1, a2, a3, a4⟩ := ntB _ k10 i v hv
            exact ⟨a, q1, e, al.off a1, al.off a2, s4 _ _ a3, s4 _ _ a4⟩
          · exact smNew hT _ _ upd_same
          · exact fun x o x1 x2 e => s4 x o (kH x o x1 x2 e)
      · intro nx
        refine ⟨_, rfl, n, xs, ns, rfl, SqL.of (k7 _ _ nn1 nn2 e6), nt7, ntk, by omega, fun b kvs H8 s8 nb e8 fk => ?_⟩
        have D8 := DealAt.ofSame D7 s8
        obtain ⟨b1, b2⟩ := dealOff D7 nb
        have nl8 : H8 nl = some (.lst (nms.map V.str)) := s8 _ _ (k7 _ _ nl1 nl2 en6)
        refine ⟨_, rfl, dl, cl, _, rfl, D8, by decide, by decide, fun r9 H9 r90 r91 D9 k9 => ⟨rfl, _, rfl, ?_⟩⟩
        have k79 : Keep dl cl H7 H9 := fun x o h1 h2 e => k9 x o h1 h2 (s8 x o e)
        have fk9 : FoundOk ns H7 H9 kvs ns.length := fun j lt => by
          obtain ⟨c, bs, a1, a2, a3, a4⟩ := fk j lt
          obtain ⟨c1, c2⟩ := dealOff D7 a3
          exact ⟨c, bs, a1, k9 _ _ c1 c2 a2, a3, a4⟩
        have e9 := k9 _ _ b1 b2 e8
        refine ite2 (fun c1 => ?_) (fun c1 => ?_)
        · refine ⟨_, rfl, _, rfl, _, rfl, _, _, rfl, SqL.of (k9 _ _ nl1 nl2 nl8), fun pl hpl => ?_⟩
          obtain ⟨ws, z1, z2, z3⟩ := cutAny nms (some (-1)) none
          have z1' : cutV (nms.map V.str) (some (-1)) none = ws.map V.str := z1
          refine ⟨by show 2 ≤ sizeLine; decide, fun t ht => ⟨t, _, rfl, SqT.of upd_same, rfl, _, _, rfl, _, _, rfl, rfl, nx _ _ ⟨b, pl, kvs, ws, rfl, ?_, ?_, nb, ?_, ?_, ?_, ?_, ?_, z2, by omega, fun j lt c hc => ?_⟩⟩⟩
          · exact (D9.new _ hpl).new _ ht
          · exact ((k79.onto pl (noneBack k79 D9 hpl)).onto t (by
              refine noneBack k79 D9 ((smNew hpl).free ht)))
          · exact smNew ht _ _ (smNew hpl _ _ e9)
          · intro j lt
            obtain ⟨c, bs, a1, a2, a3, a4⟩ := fk9 j lt
            exact ⟨c, bs, a1, smNew ht _ _ (smNew hpl _ _ a2), a3, a4⟩
          · exact noneBack k79 D9 hpl
          · exact (ne_of_none e9 hpl).symm
          · refine smNew ht _ _ ?_
            rw [upd_same]
            exact congrArg (fun z => some (HO.lst z)) z1'
          · obtain ⟨c0, bs, a1, a2, _⟩ := fk9 j lt
            rw [a1] at hc
            obtain rfl := V.ref.inj (Option.some.inj hc)
            exact ne_of_none a2 hpl
        · refine ⟨by show 0 ≤ sizeLine; decide, fun pl hpl => ?_⟩
          refine ⟨by show 2 ≤ sizeLine; decide, fun t ht => ⟨t, _, rfl, SqT.of upd_same, rfl, _, _, rfl, _, _, rfl, rfl, nx _ _ ⟨b, pl, kvs, [], rfl, ?_, ?_, nb, ?_, ?_, ?_, ?_, ?_, (fun x hx => by cases hx), by decide, fun j lt c hc => ?_⟩⟩⟩
          · exact (D9.new _ hpl).new _ ht
          · exact ((k79.onto pl (noneBack k79 D9 hpl)).onto t (by
              refine noneBack k79 D9 ((smNew hpl).free ht)))
          · exact smNew ht _ _ (smNew hpl _ _ e9)
          · intro j lt
            obtain ⟨c, bs, a1, a2, a3, a4⟩ := fk9 j lt
            exact ⟨c, bs, a1, smNew ht _ _ (smNew hpl _ _ a2), a3, a4⟩
          · exact noneBack k79 D9 hpl
          · exact (ne_of_none e9 hpl).symm
          · exact smNew ht _ _ upd_same
          · obtain ⟨c0, bs, a1, a2, _⟩ := fk9 j lt
            rw [a1] at hc
            obtain rfl := V.ref.inj (Option.some.inj hc)
            exact ne_of_none a2 hpl
    · intro nx
      refine ⟨_, rfl, h, rfl, ⟨_, SqL.of eh6⟩, fun L hL => ?_⟩
      obtain ⟨Ld, Lc⟩ := dealOff D6 hL
      refine lcG (walk_list (K := K) (a := h) (xs := hs.map V.str)) (dc dl cl) (fun H => DealAt H dl cl) (fun _ => true) (fun i v _ => ∃ k, k < ns.length ∧ v = V.str (nameAt ns k) ∧ hs[i]? = some (handAt ns k)) hL D6.al (fun H o d _ => d.new' Ld Lc) D6 (by omega) (fun H' k => SqL.of (keepOf k _ _ hd1 hc1 eh6)) ?_ ?_
      · rintro i y H8 _ KT KF hi k8 D8 _ ⟨rfl, hy⟩ kt kf
        obtain ⟨z, hz, rfl⟩ := strGet hy
        have k68 := keepOf k8
        have n8 := k68 _ _ nn1 nn2 e6
        refine ⟨rfl, yesT (iteT ⟨_, rfl, _, rfl, n, rfl, ⟨_, SqL.of n8⟩, fun D2 hD2 => ?_⟩)⟩
        refine lcF (walk_list (K := K) (a := n) (xs := xs)) (own ns z) (fun k => V.str (nameAt ns k)) hD2 (by omega) (fun H' s => SqL.of (s _ _ n8)) ?_ ?_
        · rintro k y2 H9 _ KT2 KF2 hk s9 ⟨rfl, hy2⟩ kt2 kf2
          obtain ⟨p1, q1, rfl, _, _, hp, _⟩ := ntA _ k68 k y2 hy2
          have hp9 := SqT.of (K := K) (s9 _ _ hp)
          refine ⟨rfl, _, rfl, _, _, _, _, rfl, rfl, hp9, rfl, _, rfl, rfl, _, rfl, ?_⟩
          refine ite2 (fun c1 => ?_) (fun c1 => kf2 _ ?_ (Same.refl _))
          · exact ⟨_, rfl, _, _, _, _, rfl, rfl, hp9, rfl, kt2 _ _ (own_t.mpr (V.str.inj (of_decide_eq_true c1))) (Same.refl _) rfl⟩
          · cases h0 : own ns z k with
            | false => rfl
            | true => exact absurd (decide_eq_true (congrArg V.str (own_t.mp h0))) c1
        · intro H9 s9 e9
          obtain ⟨D2d, D2c⟩ := dealOff D8 hD2
          rw [lx] at e9
          obtain ⟨k0, lk0, hk0⟩ := cov z (List.mem_of_getElem? hz)
          have l1 : 1 ≤ ((idx (own ns z) ns.length).map fun k => V.str (nameAt ns k)).length := by
            rw [List.length_map]
            exact List.length_pos_of_mem (mem_idx.mpr ⟨lk0, own_t.mpr hk0⟩)
          have l2 := idx_len (own ns z) ns.length
          have D9 : DealAt H9 dl cl := by
            obtain ⟨cs, m9, a1, a2, a3⟩ := D8.ex
            exact ⟨cs, m9, s9 _ _ a1, s9 _ _ a2, a3⟩
          refine ⟨dl, cl, _, rfl, D9, .inl ⟨D2, _, rfl, D2d, D2c, e9, l1, by rw [List.length_map]; omega, fun a v H10 ha D10 k10 => kt _ _ rfl ((KS.of s9).trans k10.dc) D10 ?_⟩⟩
          rw [List.getElem?_map] at ha
          cases e : (idx (own ns z) ns.length)[a]? with
          | none =>
            rw [e] at ha
            cases ha
          | some k =>
            rw [e] at ha
            obtain rfl := Option.some.inj ha
            obtain ⟨lk, ok⟩ := mem_idx.mp (List.mem_of_getElem? e)
            exact St'.pure ⟨k, lk, rfl, by rw [own_t.mp ok]; exact hz⟩
      · intro H8 acc k8 D8 e8 hb
        have k68 := keepOf k8
        obtain ⟨rs, rfl, hrs⟩ : ∃ rs : List Str, acc = rs.map V.str ∧ ∀ (i : Nat) (z : Str), rs[i]? = some z → ∃ k, k < ns.length ∧ nameAt ns k = z ∧ hs[i]? = some (handAt ns k) := by
          have key : ∀ (i : Nat) (v : V), acc[i]? = some v → ∃ k, k < ns.length ∧ v = V.str (nameAt ns k) ∧ hs[i]? = some (handAt ns k) := fun i v hv => by
            obtain ⟨k, hk, st⟩ := hb.2 i v hv
            rw [idx_all] at hk
            have lt := (List.getElem?_eq_some_iff.mp hk).1
            rw [List.length_range] at lt
            rw [List.getElem?_range lt] at hk
            obtain rfl := Option.some.inj hk
            exact st.now
          refine ⟨acc.map fun v => match v with | .str z => z | _ => Str.empty, ?_, fun i z hi => ?_⟩
          · rw [List.map_map]
            refine (List.map_id acc).symm.trans (List.map_congr_left fun v hv => ?_)
            obtain ⟨i, hi, e⟩ := List.getElem_of_mem hv
            obtain ⟨k, _, rfl, _⟩ := key i v (by rw [← e] <;> exact List.getElem?_eq_getElem hi)
            rfl
          · rw [List.getElem?_map] at hi
            cases e : acc[i]? with
            | none =>
              rw [e] at hi
              cases hi
            | some v =>
              rw [e] at hi
              obtain ⟨k, a, rfl, b⟩ := key i v e
              exact ⟨k, a, Option.some.inj hi, b⟩
        refine nx _ _ ⟨L, rs, rfl, D8, k68, e8, noneBack k06 D6 hL, ?_, hrs⟩
        have z := hb.1
        rw [idx_all, List.length_range, List.length_map, lhs] at z
        exact z
  · intro nx
    refine ⟨_, rfl, dl, cl, _, rfl, D4, by decide, by decide, fun r5 H5 r50 r51 D5 k5 => ⟨rfl, _, rfl, ?_⟩⟩
    have k15 : Keep dl cl H H5 := k14.trans k5
    have eh5 := k5 _ _ hd1 hc1 e24
    have en5 := k5 _ _ nd1 nc1 e4
    have go0 : ∀ H6, H6 = H5 → _ := fun H6 e => nx _ H6 ⟨nl, nms, rfl, e ▸ D5, e ▸ k15, e ▸ eh5, e ▸ en5, nn, nd4, nm4, by omega, by omega⟩
    refine ite2 (fun c1 => ?_) (fun c1 => iteF (go0 _ rfl))
    have e0 : (hs.map V.str)[0]? = some (V.str (hs.getD 0 Str.empty)) := by
      rw [List.getElem?_map, List.getD_eq_getElem?_getD, List.getElem?_eq_getElem (show 0 < hs.length by omega)]
      rfl
    have in0 : hs.getD 0 Str.empty ∈ hs := by
      rw [List.getD_eq_getElem?_getD, List.getElem?_eq_getElem (show 0 < hs.length by omega)]
      exact List.getElem_mem _
    refine ⟨_, rfl, h, _, _, _, rfl, rfl, SqL.of eh5, atI_nat (j := 0) e0, _, rfl, nl, _, rfl, .inl (SqL.of en5), rfl, flatStr nms, _, rfl, ?_⟩
    refine ite2 (fun c2 => ?_) (fun c2 => go0 _ rfl)
    have c3 : hs.getD 0 Str.empty ∉ nms := fun z => by
      have c4 : (!inV (.str (hs.getD 0 Str.empty)) (nms.map V.str)) = true := c2
      rw [inStr, decide_eq_true z] at c4
      cases c4
    refine ⟨_, rfl, h, _, _, _, rfl, rfl, SqL.of eh5, atI_nat (j := 0) e0, (by show 1 ≤ sizeLine; decide), fun t1 ht1 => ?_⟩
    have s1 := smNew (o := .lst [V.str (hs.getD 0 Str.empty)]) ht1
    refine ⟨_, rfl, _, rfl, _, _, rfl, SqL.of (s1 _ _ en5), fun t2 ht2 => ?_⟩
    have cf := cutFrom (nms.map V.str) 1
    have c1' : cutV (nms.map V.str) (some 1) none = (nms.map V.str).drop 1 := cf
    rw [c1']
    have s2 := smNew (o := .lst ((nms.map V.str).drop 1)) ht2
    refine ⟨_, _, _, _, rfl, rfl, s2 _ _ upd_same, upd_same, ?_, fun t3 ht3 => ?_⟩
    · rw [List.length_drop, List.length_map]
      have z : [V.str (hs.getD 0 Str.empty)].length = 1 := rfl
      exact Nat.le_of_lt (small1000 (by omega))
    have s3 := smNew (o := .lst ([V.str (hs.getD 0 Str.empty)] ++ (nms.map V.str).drop 1)) ht3
    have s13 := (s1.trans s2).trans s3
    have nh3 : H t3 = none := noneBack k15 D5 ((s1.trans s2).free ht3)
    refine nx _ _ ⟨t3, hs.getD 0 Str.empty :: nms.drop 1, rfl, ((D5.new _ ht1).new _ ht2).new _ ht3, keepOf ((k15.dc).trans (KS.of s13)), s13 _ _ eh5, ?_, nh3, ?_, ?_, ?_, ?_⟩
    · rw [upd_same, ← List.map_drop]
      rfl
    · exact List.nodup_cons.mpr ⟨fun z => c3 (List.mem_of_mem_drop z), nd4.sublist (List.drop_sublist _ _)⟩
    · intro z hz
      rcases List.mem_cons.mp hz with e | e
      · rw [e]
        exact hok.nm _ in0
      · exact nm4 z (List.mem_of_mem_drop e)
    · rw [List.length_cons, List.length_drop]
      omega
    · rw [List.length_cons, List.length_drop]
      omega
end
end L2.K2


namespace L2.K2
open PySem L2 L2.Bv L2.Pc L2.Ts PyProof.Rows
abbrev sTwin : Stmt := top 53
abbrev nTwin : List Str := ["heap", "parts", "hands", "notes", "ready", "paper", "names", "found", "form", "at", "some", "lasts", "note", "hand"]
theorem scTw : FnScope nTwin ["heap", "parts"] (defScope sTwin) := ⟨rfl, rfl, rfl, by decide +kernel, rfl, by decide +kernel, by decide +kernel⟩
section
variable {S : Addr → Prop} {H H' : Hp} {p h n r pp : Addr} {hs : List Str} {xs : List V} {ns : List Nt} {rs ps : List Str}
theorem PtAt.go (a : PtAt S H p h n r pp hs xs ns rs ps) (k : KS S H H') : PtAt S H' p h n r pp hs xs ns rs ps :=
  ⟨k _ _ a.off.1 a.ep, k _ _ a.off.2.1 a.eh, k _ _ a.off.2.2.1 a.en, ⟨a.nt.1, fun i v hv => let ⟨x, q, e, n1, n2, e1, e2⟩ := a.nt.2 i v hv; ⟨x, q, e, n1, n2, k _ _ n1 e1, k _ _ n2 e2⟩⟩, k _ _ a.off.2.2.2.1 a.er, k _ _ a.off.2.2.2.2 a.epp, a.off⟩
end
theorem cutOne (nms : List Str) (i : Nat) : ∃ us : List Str, cutV (nms.map V.str) (some ((i - 1 : Nat) : Int)) (some (i : Int)) = us.map V.str ∧ (∀ x ∈ us, x ∈ nms.take i) ∧ us.length ≤ 1 := by
  obtain ⟨us, e, m, _⟩ := cutStr nms (some ((i - 1 : Nat) : Int)) i
  refine ⟨us, e, m, ?_⟩
  have z := congrArg List.length e
  rw [List.length_map] at z
  rw [← z]
  unfold cutV
  rw [HT.sIx_nat, HT.sIx_nat, List.length_take]
  omega
theorem risOne {us : List Str} (h : us.length ≤ 1) : Rising us := by
  match us, h with
  | [], _ => exact List.Pairwise.nil
  | [x], _ => exact List.pairwise_singleton _ _
def spTwin : Sp := fun vs H Q _ => ∃ (dl cl p h n r pp : Addr) (S : Addr → Prop) (hs : List Str) (xs : List V) (ns : List Nt) (rs ps : List Str), vs = [.ref dl, .ref p] ∧ DealAt H dl cl ∧ Al S H ∧ S dl ∧ S cl ∧ PtAt S H p h n r pp hs xs ns rs ps ∧ PkOk hs ns rs ps ∧
  ∀ (p h n r pp : Addr) (xs : List V) (ns : List Nt) (rs ps : List Str) (H' : Hp), PtAt S H' p h n r pp hs xs ns rs ps → PkOk hs ns rs ps → DealAt H' dl cl → Keep dl cl H H' → Q (.ref p) H'
section
variable {P : Program} {w : World} {K : PySem.W.Frag} {mg : Str → Option Value} {base : Heap}
theorem ok_twin {f : Addr} {fd : FuncData} (F : Fun K "_law_twin" "_law_twin" sTwin f fd) (G : Dn P w K mg base 1 "_law_draw" ["heap", "many"] spAny) (O : Dn P w K mg base 2 "_law_pick" ["heap", "some"] spOf)
    (mr : mg "range" = none) (mn : mg "len" = none) (mt : mg "tuple" = none) (mm : mg "max" = none) (mS : mg "sorted" = none) : FnOk P w K mg base CX0 3 f fd ["heap", "parts"] spTwin := by
  obtain ⟨g, gd, G, kG, bG, mG⟩ := G.ex
  obtain ⟨o, od, O, kO, bO, mO⟩ := O.ex
  refine F.ok scTw (fun vs H Q E h => ?_) (fun cdv A outer s H vs Q E hr h => ?_)
  · obtain ⟨dl, cl, p, h, n, r, pp, S, hs, xs, ns, rs, ps, rfl, _⟩ := h
    rfl
  obtain ⟨dl, cl, p, h, n, r, pp, S, hs, xs, ns, rs, ps, rfl, D, al, Sd, Sc, pt, ok, q⟩ := h
  have hr1 : Room 1 _ := hr.mono (by decide)
  refine ⟨_, pss_cons (ps_asg (pv 1) (pg_tup rfl (pgs_cons (pg_name (i := 2) scTw.nd rfl (Or.inl rfl)) (pgs_cons (pg_name (i := 3) scTw.nd rfl (Or.inr rfl)) (pgs_cons (pg_name (i := 4) scTw.nd rfl (Or.inl rfl)) (pgs_cons (pg_name (i := 5) scTw.nd rfl (Or.inl rfl)) pgs_nil))))))
    (pss_cons (ps_par3 (i := 6) (j := 7) (l := 8) rfl scTw.nd rfl rfl rfl (by decide) (by decide) (by decide) rfl rfl rfl
      (pa_cons (pe_lc (own := [("note", 12)]) (g := gName 12) (tt := tYes) rfl scTw.nd (pi_list (pv 3)) (blkOk_by (N := nTwin) (sc := defScope sTwin) (by decide +kernel)) (fun _ _ _ _ _ => pg_name (i := 12) scTw.nd rfl (Or.inl rfl)) (fun _ _ _ _ _ => pts_nil) (fun _ _ _ _ _ => pe_ix (ixTupK (K := K) rfl) (pv 12) pe_int (fun _ _ => rfl)))
        (pa_cons (pe_lst pa_nil) (pa_cons (pe_call G hr1 rfl mG kG bG .nil pass0 (pa_cons (pv 0) (pa_cons pe_int pa_nil))) pa_nil))) (by rfl))
    (pss_cons (ps_for PassesOwn.never rfl (pi_range1 (by rfl) mr (pa_cons (pe_callB call_len_seq (by rfl) mn PySem.boot_len (pa_cons (pv 6) pa_nil)) pa_nil)) (pg_name (i := 9) scTw.nd rfl (Or.inl rfl))
      (pss_cons (ps_set (i := 10) scTw.nd rfl (Or.inl rfl) (pe_lst (pa_cons (pe_ix ix_tup (pe_ix ix_list (pv 3) (pv 9) (fun _ _ => rfl)) pe_int (fun _ _ => rfl))
        (pa_cons (pe_callTy call_tuple_of (by rfl) mt (by decide +kernel) (pa_cons (pe_slice sl_list (pv 6) (po_some (pe_callB (call_max2 rfl) (by rfl) mm (by decide +kernel) (pa_cons pe_int (pa_cons (pe_op op_sub (pv 9) pe_int) pa_nil)))) (po_some (pv 9))) pa_nil)) (pa_cons (pe_tup pa_nil) pa_nil)))))
      (pss_one (ps_expr (pe_bm PySem.F.plainAttrs_list PySem.F.slot_list_append PySem.F.type_list_append mt_append (pv 7) (pa_cons (pe_tup (pa_cons (pe_ix ix_list (pv 6) (pv 9) (fun _ _ => rfl)) (pa_cons (pe_ix ix_tup (pe_ix ix_list (pv 3) (pv 9) (fun _ _ => rfl)) pe_int (fun _ _ => rfl))
        (pa_cons (pe_ix ix_list (pv 10) (pe_call O hr rfl mO kO bO .nil pass0 (pa_cons (pv 0) (pa_cons (pe_lst (pa_cons (pv 8) (pa_cons (pv 8) (pa_cons pe_int pa_nil)))) pa_nil))) (fun _ _ => rfl)) pa_nil)))) pa_nil))))))
    (pss_cons (ps_setLc (i := 11) (own := [("hand", 13)]) (g := gName 13) (tt := tYes) rfl scTw.nd rfl rfl (sw_true rfl rfl rfl (by decide +kernel)) (pi_list (pv 2)) (blkOk_by (N := nTwin) (sc := defScope sTwin) (by decide +kernel)) (fun _ _ _ _ _ => pg_name (i := 13) scTw.nd rfl (Or.inr rfl)) (fun _ _ _ _ _ => pts_nil)
      (fun _ _ _ _ _ => pe_ix (ixListK (K := K) rfl) (pe_lc (own := [("note", 12)]) (g := gName 12) (tt := _) rfl scTw.nd (pi_listK (K := K) rfl (pv 3)) (blkOk_by (N := nTwin) (sc := relSc (defScope sTwin) (lcSc (asgOf sTwin 3))) (by decide +kernel))
        (fun _ _ _ _ _ => pg_name (i := 12) scTw.nd rfl (Or.inl rfl)) (fun _ _ _ _ _ => pts_one (pt_cmpR op_eq (pe_ix (ixTupK (K := K) rfl) (pv 12) pe_int (fun _ _ => rfl)) (pv 13) (nomark _))) (fun _ _ _ _ _ => pe_ix (ixTupK (K := K) rfl) (pv 12) pe_int (fun _ _ => rfl))) (pe_un un_neg pe_int) (fun _ _ => rfl)))
    (pss_one (ps_ret (pe_tup (pa_cons (pv 2) (pa_cons (pv 7) (pa_cons (pe_ifExp (pt_cmpR op_eq (pe_call G hr1 rfl mG kG bG .nil pass0 (pa_cons (pv 0) (pa_cons pe_int pa_nil))) pe_int (nomark _)) (pv 11) (pv 4))
      (pa_cons (pe_callTy call_tuple_of (by rfl) mt (by decide +kernel) (pa_cons (pe_callB cr_sortedS (by rfl) mS (by decide +kernel) (pa_cons (pv 6) pa_nil)) pa_nil)) pa_nil)))))))))), ?_⟩
  obtain ⟨op, oh, on, orr, opp⟩ := pt.off
  have offD : ∀ {x : Addr}, ¬ S x → x ≠ dl ∧ x ≠ cl := fun nx => ⟨fun z => nx (by rw [z]; exact Sd), fun z => nx (by rw [z]; exact Sc)⟩
  have kS : ∀ {A B : Hp}, Keep dl cl A B → KS S A B := fun k => k.ks Sd Sc
  have two := ok.two
  have forty := ok.forty
  have lx : xs.length = ns.length := pt.nt.1
  let nms : List Str := ns.map (·.1)
  have lnm : nms.length = ns.length := List.length_map _
  have lnv : (nms.map V.str).length = nms.length := List.length_map _
  have nmE : ∀ k, k < ns.length → nms[k]? = some (nameAt ns k) := fun k lk => by
    show (ns.map (·.1))[k]? = _
    rw [nameMap, List.getElem?_map, List.getElem?_range lk]
    rfl
  refine ⟨_, rfl, p, _, rfl, SqT.of pt.ep, rfl, _, _, rfl, _, _, rfl, _, _, rfl, _, _, rfl, rfl, ?_⟩
  refine ⟨_, rfl, n, rfl, ⟨_, SqL.of pt.en⟩, fun nl hnl => ?_⟩
  refine lcF (walk_list (K := K) (a := n) (xs := xs)) (fun _ => true) (fun i => V.str (nameAt ns i)) hnl (by omega) (fun H' s => SqL.of (s _ _ pt.en)) ?_ ?_
  · rintro i y H1 _ KT KF hi s1 ⟨rfl, hy⟩ kt kf
    obtain ⟨a, q1, rfl, _, _, ea, _⟩ := pt.nt.2 i y hy
    exact ⟨rfl, yesT (iteT ⟨_, rfl, _, _, _, _, rfl, rfl, SqT.of (s1 _ _ ea), rfl, kt _ _ rfl (Same.refl _) rfl⟩)⟩
  intro H1 s1 e1
  rw [lx, idx_all] at e1
  have e1 : H1 nl = some (.lst (nms.map V.str)) := by
    rw [e1]
    show _ = some (HO.lst ((ns.map (·.1)).map V.str))
    rw [nameMap, List.map_map]
    rfl
  refine ⟨by show 0 ≤ sizeLine; decide, fun fo hfo => ⟨_, rfl, dl, cl, _, rfl, (DealAt.ofSame D s1).new _ hfo, by decide, by decide, fun fm H2 f0 f1 D2 k2 => ⟨_, _, _, rfl, ?_⟩⟩⟩
  obtain ⟨fm, rfl⟩ := Int.eq_ofNat_of_zero_le f0
  obtain ⟨fod, foc⟩ := dealOff (DealAt.ofSame D s1) hfo
  obtain ⟨nld, nlc⟩ := dealOff D hnl
  have foH : H fo = none := s1.free hfo
  have k02 : Keep dl cl H H2 := fun x o x1 x2 e => k2 x o x1 x2 (smNew hfo _ _ (s1 _ _ e))
  have nlfo : nl ≠ fo := ne_of_none e1 hfo
  have enl2 := k2 _ _ nld nlc (smNew hfo _ _ e1)
  have efo2 := k2 _ _ fod foc upd_same
  dsimp only
  refine seqBy (fun σ1 H3 => ∃ (t9 t10 : Option V) (ys : List V) (ms : List Nt), σ1 = [some (.ref dl), some (.ref p), some (.ref h), some (.ref n), some (.ref r), some (.ref pp), some (.ref nl), some (.ref fo), some (nV fm), t9, t10, none, none, none] ∧ DealAt H3 dl cl ∧ Keep dl cl H H3 ∧ H3 nl = some (.lst (nms.map V.str)) ∧ H3 fo = some (.lst ys) ∧
    ys.length = ms.length ∧ ms.length = ns.length ∧ (∀ (j : Nat) (v : V), ys[j]? = some v → ∃ a q : Addr, v = .ref a ∧ ¬ S a ∧ ¬ S q ∧ H3 a = some (.tup [.str (nameAt ms j), .str (handAt ms j), .ref q]) ∧ H3 q = some (.tup ((waitAt ms j).map V.str))) ∧
    (∀ k, k < ns.length → nameAt ms k = nameAt ns k ∧ handAt ms k = handAt ns k) ∧ (∀ j, j < ns.length → ∀ x ∈ waitAt ms j, ∃ k, k < j ∧ nameAt ns k = x) ∧ ∀ j, j < ns.length → Rising (waitAt ms j)) ?_ ?_
  · rintro σ1 H3 ⟨t9, t10, ys, ms, rfl, D3, k3, enl3, efo3, lys, lms, ym, nm3, wt3, ri3⟩
    have h3 := kS k3 _ _ oh pt.eh
    have n3 := kS k3 _ _ on pt.en
    have lhs : (hs.map V.str).length = hs.length := List.length_map _
    have six := ok.hd.six
    have cov : ∀ z ∈ hs, ∃ k, k < ns.length ∧ handAt ns k = z := fun z hz => by
      obtain ⟨i, li, ei⟩ := List.getElem_of_mem hz
      have lr : i < rs.length := by rw [ok.rl]; exact li
      obtain ⟨k, a, _, b⟩ := ok.rd i rs[i] (List.getElem?_eq_getElem lr)
      rw [List.getElem?_eq_getElem li, ei] at b
      exact ⟨k, a, (Option.some.inj b).symm⟩
    refine seqBy (fun σ1 H4 => ∃ (la : Addr) (rs2 : List Str), σ1 = [some (.ref dl), some (.ref p), some (.ref h), some (.ref n), some (.ref r), some (.ref pp), some (.ref nl), some (.ref fo), some (nV fm), t9, t10, some (.ref la), none, none] ∧ Same H3 H4 ∧ H3 la = none ∧ H4 la = some (.lst (rs2.map V.str)) ∧ rs2.length = hs.length ∧
      ∀ (i : Nat) (z : Str), rs2[i]? = some z → ∃ k, k < ns.length ∧ nameAt ns k = z ∧ hs[i]? = some (handAt ns k)) ?_ ?_
    · rintro σ1 H4 ⟨la, rs2, rfl, s4, nla, ela, lr2, rd2⟩
      have D4 := DealAt.ofSame D3 s4
      have k4 : Keep dl cl H H4 := fun x o x1 x2 e => s4 x o (k3 x o x1 x2 e)
      have laH : H la = none := noneBack k3 D3 nla
      refine ⟨_, rfl, _, rfl, _, rfl, dl, cl, _, rfl, D4, by decide, by decide, fun r5 H5 _ _ D5 k5 => ⟨rfl, _, rfl, ?_⟩⟩
      have k05 : Keep dl cl H H5 := k4.trans k5
      have k35 : Keep dl cl H3 H5 := fun x o x1 x2 e => k5 x o x1 x2 (s4 x o e)
      have en5 := k35 _ _ nld nlc enl3
      obtain ⟨la1, la2⟩ := dealOff D laH
      have key : ∀ (rr : Addr) (rs3 : List Str), H5 rr = some (.lst (rs3.map V.str)) → ¬ S rr → rs3.length = hs.length → (∀ (i : Nat) (z : Str), rs3[i]? = some z → ∃ k, k < ns.length ∧ nameAt ns k = z ∧ hs[i]? = some (handAt ns k)) →
          ∀ (qs : List Str) (qa qt T : Addr), qs.Perm nms → sortedS qs = true → H5 qa = none → (upd H5 qa (.lst (qs.map V.str))) qt = none → (upd (upd H5 qa (.lst (qs.map V.str))) qt (.tup (qs.map V.str))) T = none →
          Q (.ref T) (upd (upd (upd H5 qa (.lst (qs.map V.str))) qt (.tup (qs.map V.str))) T (.tup [V.ref h, V.ref fo, V.ref rr, V.ref qt])) := fun rr rs3 err orr2 lr3 rd3 qs qa qt T pm so hqa hqt hT => by
        have s1 := smNew (o := .lst (qs.map V.str)) hqa
        have s2 := s1.trans (smNew (o := .tup (qs.map V.str)) hqt)
        have s3 := s2.trans (smNew (o := .tup [V.ref h, V.ref fo, V.ref rr, V.ref qt]) hT)
        have qtH : H qt = none := noneBack k05 D5 (s1.free hqt)
        have TH : H T = none := noneBack k05 D5 (s2.free hT)
        have nd : qs.Nodup := pm.nodup_iff.mpr ok.nt.nd
        have nmM : ∀ k, k < ms.length → nameAt ms k = nameAt ns k ∧ handAt ms k = handAt ns k := fun k lk => nm3 k (by omega)
        have mapE : ms.map (·.1) = ns.map (·.1) := by
          rw [nameMap, nameMap, lms]
          exact List.map_congr_left fun k hk => (nm3 k (List.mem_range.mp hk)).1
        have mem : ∀ k, k < ns.length → nameAt ns k ∈ qs := fun k lk => pm.mem_iff.mpr (List.mem_of_getElem? (nmE k lk))
        refine q T h fo rr qt ys ms rs3 qs _ ⟨upd_same, s3 _ _ (kS k05 _ _ oh pt.eh), s3 _ _ (k35 _ _ fod foc efo3), ⟨lys, fun j v hv => ?_⟩, s3 _ _ err, smNew hT _ _ upd_same, al.off TH, oh, al.off foH, orr2, al.off qtH⟩ ⟨ok.hd, ⟨by rw [mapE]; exact ok.nt.nd, fun j lj x hx => ?_, fun j lj => (ri3 j (by omega)).nd⟩, by omega, by omega, fun i li => ?_, fun i li => ?_, fun i li => ri3 i (by omega), lr3, fun i z hz => ?_, ⟨rising_of so nd, fun x hx => ?_, fun y hy => ?_⟩⟩ (DealAt.ofSame D5 s3) (fun x o x1 x2 e => s3 x o (k05 x o x1 x2 e))
        · obtain ⟨b1, q1, a1, a2, a3, a4, a5⟩ := ym j v hv
          exact ⟨b1, q1, a1, a2, a3, s3 _ _ (kS k35 _ _ a2 a4), s3 _ _ (kS k35 _ _ a3 a5)⟩
        · obtain ⟨k, lk, e⟩ := wt3 j (by omega) x hx
          exact ⟨k, lk, by rw [(nmM k (by omega)).1, e]⟩
        · rw [(nmM i li).1]
          exact ok.nms i (by omega)
        · rw [(nmM i li).2]
          exact ok.hin i (by omega)
        · obtain ⟨k, lk, e1, e2⟩ := rd3 i z hz
          exact ⟨k, by omega, by rw [(nmM k (by omega)).1, e1], by rw [(nmM k (by omega)).2, e2]⟩
        · have m1 := pm.mem_iff.mp hx
          obtain ⟨k, lk, e⟩ := List.getElem_of_mem m1
          have e2 := nmE k (by omega)
          rw [List.getElem?_eq_getElem lk, e] at e2
          exact ⟨k, by omega, by rw [(nmM k (by omega)).1, (Option.some.inj e2)]⟩
        · obtain ⟨k, lk, e⟩ := cov y hy
          exact ⟨k, by omega, by rw [(nmM k (by omega)).2, e], k, by omega, by rw [(nmM k (by omega)).1]; exact mem k lk, .self _⟩
      refine ite2 (fun _ => ?_) (fun _ => ?_)
      · exact ⟨_, rfl, _, rfl, nl, nms, rfl, SqL.of en5, by omega, fun qs qa pm so hqa => ⟨qa, _, rfl, .inl ⟨SqL.of upd_same, fun qt hqt => ⟨by show 4 ≤ sizeLine; decide, fun T hT => key la rs2 (k5 _ _ la1 la2 ela) (al.off laH) lr2 rd2 qs qa qt T pm so hqa hqt hT⟩⟩⟩⟩
      · exact ⟨_, rfl, _, rfl, nl, nms, rfl, SqL.of en5, by omega, fun qs qa pm so hqa => ⟨qa, _, rfl, .inl ⟨SqL.of upd_same, fun qt hqt => ⟨by show 4 ≤ sizeLine; decide, fun T hT => key r rs (kS k05 _ _ orr pt.er) orr ok.rl ok.rd qs qa qt T pm so hqa hqt hT⟩⟩⟩⟩
    · intro nx
      refine ⟨_, rfl, h, rfl, ⟨_, SqL.of h3⟩, fun L hL => ?_⟩
      refine lcG (walk_list (K := K) (a := h) (xs := hs.map V.str)) noS (fun _ => True) (fun _ => true) (fun i v _ => ∃ k, k < ns.length ∧ v = V.str (nameAt ns k) ∧ hs[i]? = some (handAt ns k)) hL Al.empty (fun _ _ _ _ => trivial) trivial (by omega) (fun H' k => SqL.of (k.same _ _ h3)) ?_ ?_
      · rintro i y H8 _ KT KF hi k8 _ _ ⟨rfl, hy⟩ kt kf
        obtain ⟨z, hz, rfl⟩ := strGet hy
        have s8 := k8.same
        have n8 := s8 _ _ n3
        refine ⟨rfl, yesT (iteT ⟨_, rfl, n, rfl, ⟨_, SqL.of n8⟩, fun D2 hD2 => ?_⟩)⟩
        refine lcF (walk_list (K := K) (a := n) (xs := xs)) (own ns z) (fun k => V.str (nameAt ns k)) hD2 (by omega) (fun H' s => SqL.of (s _ _ n8)) ?_ ?_
        · rintro k y2 H9 _ KT2 KF2 hk s9 ⟨rfl, hy2⟩ kt2 kf2
          obtain ⟨p1, q1, rfl, np1, _, hp, _⟩ := pt.nt.2 k y2 hy2
          have hp9 := SqT.of (K := K) (s9 _ _ (s8 _ _ (kS k3 _ _ np1 hp)))
          refine ⟨rfl, _, rfl, _, _, _, _, rfl, rfl, hp9, rfl, _, rfl, rfl, _, rfl, ?_⟩
          refine ite2 (fun c1 => ?_) (fun c1 => kf2 _ ?_ (Same.refl _))
          · exact ⟨_, rfl, _, _, _, _, rfl, rfl, hp9, rfl, kt2 _ _ (own_t.mpr (V.str.inj (of_decide_eq_true c1))) (Same.refl _) rfl⟩
          · cases h0 : own ns z k with
            | false => rfl
            | true => exact absurd (decide_eq_true (congrArg V.str (own_t.mp h0))) c1
        · intro H9 s9 e9
          rw [lx] at e9
          obtain ⟨k0, lk0, hk0⟩ := cov z (List.mem_of_getElem? hz)
          have ne : idx (own ns z) ns.length ≠ [] := fun e => by
            have m : k0 ∈ idx (own ns z) ns.length := mem_idx.mpr ⟨lk0, own_t.mpr hk0⟩
            rw [e] at m
            cases m
          obtain ⟨w1, c, ew⟩ : ∃ (w : List Nat) (c : Nat), idx (own ns z) ns.length = w ++ [c] := ⟨_, _, (List.dropLast_concat_getLast ne).symm⟩
          have mc : c ∈ idx (own ns z) ns.length := by
            rw [ew]
            exact List.mem_append.mpr (.inr (List.mem_singleton.mpr rfl))
          obtain ⟨lc, oc⟩ := mem_idx.mp mc
          have atL : atI ((idx (own ns z) ns.length).map fun k => V.str (nameAt ns k)) (-1) = some (V.str (nameAt ns c)) := by
            rw [ew, List.map_append]
            exact atI_last _ _
          exact ⟨_, rfl, D2, _, _, _, rfl, rfl, SqL.of e9, atL, kt _ _ rfl (KS.of s9) trivial (St'.pure ⟨c, lc, rfl, by rw [own_t.mp oc]; exact hz⟩)⟩
      · intro H8 acc k8 _ e8 hb
        obtain ⟨rs2, rfl, hrs⟩ : ∃ rs : List Str, acc = rs.map V.str ∧ ∀ (i : Nat) (z : Str), rs[i]? = some z → ∃ k, k < ns.length ∧ nameAt ns k = z ∧ hs[i]? = some (handAt ns k) := by
          have key : ∀ (i : Nat) (v : V), acc[i]? = some v → ∃ k, k < ns.length ∧ v = V.str (nameAt ns k) ∧ hs[i]? = some (handAt ns k) := fun i v hv => by
            obtain ⟨k, hk, st⟩ := hb.2 i v hv
            rw [idx_all] at hk
            have lt := (List.getElem?_eq_some_iff.mp hk).1
            rw [List.length_range] at lt
            rw [List.getElem?_range lt] at hk
            obtain rfl := Option.some.inj hk
            exact st.now
          refine ⟨acc.map fun v => match v with | .str z => z | _ => Str.empty, ?_, fun i z hi => ?_⟩
          · rw [List.map_map]
            refine (List.map_id acc).symm.trans (List.map_congr_left fun v hv => ?_)
            obtain ⟨i, hi, e⟩ := List.getElem_of_mem hv
            obtain ⟨k, _, rfl, _⟩ := key i v (by rw [← e] <;> exact List.getElem?_eq_getElem hi)
            rfl
          · rw [List.getElem?_map] at hi
            cases e : acc[i]? with
            | none =>
              rw [e] at hi
              cases hi
            | some v =>
              rw [e] at hi
              obtain ⟨k, a, rfl, b⟩ := key i v e
              exact ⟨k, a, Option.some.inj hi, b⟩
        refine nx _ _ ⟨L, rs2, rfl, k8.same, hL, e8, ?_, hrs⟩
        have z := hb.1
        rw [idx_all, List.length_range, List.length_map, lhs] at z
        exact z
  · intro nx
    refine ⟨_, rfl, _, _, rfl, .inl (SqL.of enl2), _, rfl, by omega, by omega, ?_⟩
    refine for_range (lo := 0) (n := (nms.map V.str).length) (fun i σ H3 => ∃ (t9 t10 : Option V) (ys : List V) (ms : List Nt), σ = [some (.ref dl), some (.ref p), some (.ref h), some (.ref n), some (.ref r), some (.ref pp), some (.ref nl), some (.ref fo), some (nV fm), t9, t10, none, none, none] ∧ DealAt H3 dl cl ∧ Keep dl cl H H3 ∧ H3 nl = some (.lst (nms.map V.str)) ∧ H3 fo = some (.lst ys) ∧
      ys.length = ms.length ∧ ms.length = i ∧ (∀ (j : Nat) (v : V), ys[j]? = some v → ∃ a q : Addr, v = .ref a ∧ ¬ S a ∧ ¬ S q ∧ H3 a = some (.tup [.str (nameAt ms j), .str (handAt ms j), .ref q]) ∧ H3 q = some (.tup ((waitAt ms j).map V.str))) ∧
      (∀ k, k < i → nameAt ms k = nameAt ns k ∧ handAt ms k = handAt ns k) ∧ (∀ j, j < i → ∀ x ∈ waitAt ms j, ∃ k, k < j ∧ nameAt ns k = x) ∧ ∀ j, j < i → Rising (waitAt ms j)) ?_ ?_ ?_
    · exact ⟨none, none, [], [], rfl, D2, k02, enl2, efo2, rfl, rfl, (fun j v z => by cases z), fun k lt => absurd lt (by omega), fun k lt => absurd lt (by omega), fun k lt => absurd lt (by omega)⟩
    · rintro i σ H3 hi ⟨t9, t10, ys, ms, rfl, D3, k3, enl3, efo3, lys, lms, ym, nm3, wt3, ri3⟩
      have li : i < ns.length := by
        rw [List.length_map] at hi
        omega
      have ei : (0 : Int) + (i : Int) = ((i : Nat) : Int) := by omega
      rw [ei]
      dsimp only [gName]
      have hxi := List.getElem?_eq_getElem (show i < xs.length by omega)
      obtain ⟨a, w0, eav, na, nw0, ea, ew0⟩ := pt.nt.2 i _ hxi
      have n3 := kS k3 _ _ on pt.en
      have a3 := kS k3 _ _ na ea
      have w3 := kS k3 _ _ nw0 ew0
      have atX : atI xs ((i : Nat) : Int) = some (.ref a) := by
        rw [← eav]
        exact atI_nat hxi
      have atN : atI (nms.map V.str) ((i : Nat) : Int) = some (.str (nameAt ns i)) := by
        refine atI_nat ?_
        rw [List.getElem?_map, nmE i li]
        rfl
      obtain ⟨us, z1, z2, z3⟩ := cutOne nms i
      refine ⟨_, rfl, _, rfl, n, _, _, _, rfl, rfl, SqL.of n3, atX, a, _, _, _, rfl, rfl, SqT.of a3, rfl, _, rfl, _, rfl, _, _, rfl, rfl, _, _, rfl, _, rfl, _, rfl, _, rfl, nl, _, rfl, SqL.of enl3, fun v0 hv0 => ?_⟩
      have em : (if ((i : Nat) : Int) - 1 > 0 then ((i : Nat) : Int) - 1 else 0) = ((i - 1 : Nat) : Int) := by
        split <;> omega
      rw [em, z1]
      have t1 := smNew (o := .lst (us.map V.str)) hv0
      refine ⟨v0, _, rfl, .inl ⟨SqL.of upd_same, fun v1 hv1 => ⟨by show 0 ≤ sizeLine; decide, fun v2 hv2 => ⟨by show 3 ≤ sizeLine; decide, fun sl hsl => ?_⟩⟩⟩⟩
      have t2 := t1.trans (smNew (o := .tup (us.map V.str)) hv1)
      have t3 := t2.trans (smNew (o := .tup ([] : List V)) hv2)
      have t4 := t3.trans (smNew (o := .lst [V.ref w0, V.ref v1, V.ref v2]) hsl)
      have ev1 := smNew (o := .lst [V.ref w0, V.ref v1, V.ref v2]) hsl _ _ (smNew (o := .tup ([] : List V)) hv2 _ _ (upd_same (H := upd H3 v0 (.lst (us.map V.str))) (a := v1) (o := .tup (us.map V.str))))
      have ev2 := smNew (o := .lst [V.ref w0, V.ref v1, V.ref v2]) hsl _ _ (upd_same (H := upd (upd H3 v0 (.lst (us.map V.str))) v1 (.tup (us.map V.str))) (a := v2) (o := .tup ([] : List V)))
      have v1H : H v1 = none := noneBack k3 D3 (t1.free hv1)
      have v2H : H v2 = none := noneBack k3 D3 (t2.free hv2)
      have slH : H sl = none := noneBack k3 D3 (t3.free hsl)
      obtain ⟨sld, slc⟩ := dealOff D slH
      have D4 := DealAt.ofSame D3 t4
      have k4 : Keep dl cl H _ := fun x o x1 x2 e => t4 x o (k3 x o x1 x2 e)
      refine ⟨_, rfl, .inl ⟨rfl, _, SqL.of (t4 _ _ efo3)⟩, _, rfl, _, rfl, nl, _, _, _, rfl, rfl, SqL.of (t4 _ _ enl3), atN, _, rfl, _, rfl, n, _, _, _, rfl, rfl, SqL.of (t4 _ _ n3), atX, a, _, _, _, rfl, rfl, SqT.of (t4 _ _ a3), rfl, _, rfl, _, rfl, _, rfl, _, rfl, by show 3 ≤ sizeLine; decide, fun ll hll => ?_⟩
      obtain ⟨lld, llc⟩ := dealOff D4 hll
      refine ⟨dl, cl, _, rfl, D4.new _ hll, .inl ⟨ll, _, rfl, lld, llc, upd_same, (by show 1 ≤ 3; decide), (by show 3 ≤ 1000; decide), fun j0 v H5 hj0 D5 k5 => ?_⟩⟩
      have k45 := (Keep.new (dl := dl) (cl := cl) (.lst [nV fm, nV fm, V.int 2]) hll).trans k5
      have k35 : Keep dl cl H3 H5 := fun x o x1 x2 e => k45 x o x1 x2 (t4 x o e)
      have k05 : Keep dl cl H H5 := k3.trans k35
      obtain ⟨j1, rfl, lj1⟩ : ∃ j : Nat, v = .int j ∧ j < 3 := by
        match j0, hj0 with
        | 0, hi => exact ⟨fm, (Option.some.inj hi).symm, by omega⟩
        | 1, hi => exact ⟨fm, (Option.some.inj hi).symm, by omega⟩
        | 2, hi => exact ⟨2, (Option.some.inj hi).symm, by decide⟩
        | j + 3, hi => cases hi
      obtain ⟨v1d, v1c⟩ := dealOff D v1H
      obtain ⟨v2d, v2c⟩ := dealOff D v2H
      obtain ⟨qw, ws, atS, nqw, eqw, wsI, wsR⟩ : ∃ (qw : Addr) (ws : List Str), atI [V.ref w0, V.ref v1, V.ref v2] ((j1 : Nat) : Int) = some (.ref qw) ∧ ¬ S qw ∧ H5 qw = some (.tup (ws.map V.str)) ∧ (∀ x ∈ ws, ∃ k, k < i ∧ nameAt ns k = x) ∧ Rising ws := by
        match j1, lj1 with
        | 0, _ => exact ⟨w0, waitAt ns i, atI_nat (j := 0) rfl, nw0, kS k35 _ _ nw0 w3, ok.nt.wt i li, ok.ris i li⟩
        | 1, _ =>
          refine ⟨v1, us, atI_nat (j := 1) rfl, al.off v1H, k45 _ _ v1d v1c ev1, fun x hx => ?_, risOne z3⟩
          obtain ⟨k, lk, e⟩ := List.getElem_of_mem (z2 x hx)
          rw [List.length_take] at lk
          rw [List.getElem_take] at e
          have e2 := nmE k (by omega)
          rw [List.getElem?_eq_getElem (by omega), e] at e2
          exact ⟨k, by omega, (Option.some.inj e2).symm⟩
        | 2, _ => exact ⟨v2, [], atI_nat (j := 2) rfl, al.off v2H, k45 _ _ v2d v2c ev2, (fun x hx => by cases hx), List.Pairwise.nil⟩
        | j + 3, h => omega
      refine ⟨sl, _, _, _, rfl, rfl, SqL.of (k45 _ _ sld slc upd_same), atS, by show 3 ≤ sizeLine; decide, fun T hT => ?_⟩
      have TH : H T = none := noneBack k05 D5 hT
      have efo5 := k35 _ _ fod foc efo3
      have Tfo : T ≠ fo := (ne_of_none efo5 hT).symm
      refine ⟨fo, _, _, rfl, rfl, smNew hT _ _ efo5, small1000 (by omega), ?_⟩
      have stand : ∀ u o, u ≠ fo → H5 u = some o → upd (upd H5 T (.tup [.str (nameAt ns i), .str (handAt ns i), .ref qw])) fo (.lst (ys ++ [V.ref T])) u = some o := fun u o ne e => by
        rw [upd_ne ne]
        exact smNew hT _ _ e
      have nlS : nl ≠ fo := nlfo
      refine ⟨_, _, ys ++ [V.ref T], ms ++ [(nameAt ns i, handAt ns i, ws)], rfl, (D5.new _ hT).new' fod foc, ?_, stand _ _ nlS (k35 _ _ nld nlc enl3), upd_same, by rw [List.length_append, List.length_append, lys] <;> rfl, by rw [List.length_append, lms] <;> rfl, fun j v hv => ?_, fun k lk => ?_, fun j lj x hx => ?_, fun j lj => ?_⟩
      · exact (k05.onto T TH).onto fo foH
      · by_cases lt : j < ys.length
        · rw [List.getElem?_append_left lt] at hv
          obtain ⟨b1, q1, a1, a2, a3, a4, a5⟩ := ym j v hv
          have b1n : b1 ≠ fo := fun z => by
            rw [z, efo3] at a4
            cases a4
          have q1n : q1 ≠ fo := fun z => by
            rw [z, efo3] at a5
            cases a5
          refine ⟨b1, q1, a1, a2, a3, ?_, ?_⟩
          · unfold Pc.nameAt handAt
            rw [getSnoc (by omega)]
            exact stand _ _ b1n (kS k35 _ _ a2 a4)
          · unfold waitAt
            rw [getSnoc (by omega)]
            exact stand _ _ q1n (kS k35 _ _ a3 a5)
        · have je : j = ys.length := by
            have z := (List.getElem?_eq_some_iff.mp hv).1
            rw [List.length_append] at z
            have z2 : [V.ref T].length = 1 := rfl
            omega
          subst je
          rw [List.getElem?_append_right (Nat.le_refl _), Nat.sub_self] at hv
          obtain rfl := Option.some.inj hv
          have qn : qw ≠ fo := fun z => by
            rw [z, efo5] at eqw
            cases eqw
          have qT : qw ≠ T := ne_of_none eqw hT
          refine ⟨T, qw, rfl, al.off TH, nqw, ?_, ?_⟩
          · unfold Pc.nameAt handAt
            rw [getSnocE lys.symm, upd_ne Tfo]
            exact upd_same
          · unfold waitAt
            rw [getSnocE lys.symm]
            exact stand _ _ qn eqw
      · unfold Pc.nameAt handAt
        by_cases ki : k = i
        · subst ki
          rw [getSnocE lms]
          exact ⟨rfl, rfl⟩
        · rw [getSnoc (by omega)]
          exact nm3 k (by omega)
      · unfold waitAt at hx
        by_cases ji : j = i
        · subst ji
          rw [getSnocE lms] at hx
          exact wsI x hx
        · rw [getSnoc (by omega)] at hx
          exact wt3 j (by omega) x hx
      · unfold waitAt
        by_cases ji : j = i
        · subst ji
          rw [getSnocE lms]
          exact wsR
        · rw [getSnoc (by omega)]
          exact ri3 j (by omega)
    · rintro σ H3 ⟨t9, t10, ys, ms, rfl, D3, k3, enl3, efo3, lys, lms, ym, nm3, wt3, ri3⟩
      rw [List.length_map, lnm] at lms nm3 wt3 ri3
      exact nx _ _ ⟨t9, t10, ys, ms, rfl, D3, k3, enl3, efo3, lys, lms, ym, nm3, wt3, ri3⟩
end
end L2.K2


namespace L2.Bv
open PySem PySem.Spec PyProof.Rows Bov
/-! ### raise of such an exception, a caught one's field, calls by keywords alone -/
section
variable {X : Cx}
theorem pmkR {e : Expr} {te : TE} (hx : X.ex = []) (he : PE X e te) :
    PMk X e (fun σ H Q => te σ H fun x H1 => ∃ (a C : Addr) (bm : List Value) (d : Option Addr), x = .ref a ∧ EC X.K C bm ∧ H1 a = some (exo a C d) ∧ X.H_0 a = none ∧ Q (.ref C) d (delH H1 a)) := by
  intro pins s σ H Q I h
  refine thn (he.run pins s σ H _ I h) fun u s1 ⟨v, H1, I1, r1, a, C, bm, d, ev, T, ea, h0, q⟩ => ?_
  subst ev
  obtain rfl : u = Value.ref a := r1
  obtain ⟨t1, ho⟩ := exo_at I1.hok ea
  obtain ⟨G, gs, ga, J⟩ := I1.untrack ea (fr0_none h0) hx
  exact ⟨a, _, _, { s1 with heap := G }, delH H1 a, .ref C, d, rfl, J, gs, ga, ho, ⟨rfl, rfl⟩, rfl, rfl, delH_same, rfl, I1.bare, raises_own T.exC T.tyC, q⟩
/-- raise C(e) -/
def tRaise (K : PySem.W.Frag) (H0 : Hp) (te : TE) (W : WX) : TS := fun _ σ H => te σ H fun x H1 => ∃ (a C : Addr) (bm : List Value) (d : Option Addr), x = .ref a ∧ EC K C bm ∧ H1 a = some (exo a C d) ∧ H0 a = none ∧ W (.ref C) d σ (delH H1 a)
theorem psRaise {e : Expr} {te : TE} {W : WX} {pos : Pos} (hc : X.calm = true) (tk : Takes X W) (hx : X.ex = []) (he : PE X e te) : PS X (.Raise (some e) none pos) (tRaise X.K X.H_0 te W) := ps_raise hc tk (pmkR hx he)
/-- e.f, e the caught exception at a -/
def tCg (a : Addr) (cls : Value) (d : Option Addr) (K : PySem.W.Frag) (f : Str) (te : TE) : TE := fun σ H Q => te σ H fun x H1 => x = .ref a ∧ ∃ (C : Addr) (bm : List Value) (dx : Addr) (fs : List (Str × V)) (v : V), cls = .ref C ∧ EC K C bm ∧ PySem.W.findIn K (.ref C) f = some none ∧ d = some dx ∧ H1 dx = some (exd dx fs) ∧ fs.lookup f = some v ∧ Q v H1
theorem peCg {a : Addr} {oe : Obj} {cls : Value} {d : Option Addr} {pn : List (Addr × Obj)} {e : Expr} {te : TE} {pos : Pos} {f : Str} (hz : Zc cls d oe) (hf : ∃ vs, oe.data = .fields vs) (he : PE (X.suite a ((a, oe) :: pn)) e te)
    (hb : attributeBase e f X.env (eval e X.env) = eval e X.env := by rfl) : PE (X.suite a ((a, oe) :: pn)) (.Attribute e f pos) (tCg a cls d X.K f te) := by
  refine ⟨fun pins s σ H Q I h => attr_of hb (thn (he.run pins s σ H _ I h) fun u s1 hh => ?_)⟩
  obtain ⟨x, H1, I1, rx, rfl, C, bm, dx, fs, v, rfl, T, no, rfl, ed, l, q⟩ := hh
  obtain rfl : u = Value.ref a := rx
  have pin := (I1.pin (a, oe) (List.mem_append_left _ List.mem_cons_self)).1
  obtain ⟨vs, hv⟩ := hf
  obtain ⟨mA, hns, rel⟩ := exd_at I1.hok ed
  obtain ⟨od, h1, hl⟩ := lookIn_ns hns
  obtain ⟨w, hw, rw'⟩ := RelO.some_of (v := v) (o := mA f) (by
    rw [← l]
    exact rel f)
  have nc : PySem.W.notCls oe := by
    unfold PySem.W.notCls
    rw [hv]
  have J : PySem.W.InstAt s1.heap a oe C (some od) := ⟨pin, hz.1, nc, by rw [hz.2]; exact h1⟩
  refine HandSPX.exc_get I1.kIn J T.ga T.gg T.exC (PySem.W.findObj_own T.hdC no rfl ?_) (handed_of rw') ⟨v, H1, I1.tok _, rw', q⟩
  rw [hl, hw]
/-- as many slots as names -/
theorem peLen {e : Expr} {te : TE} {n : Nat} (hn : X.N.length = n) (h : PE X e te) : PE X e (fun σ H Q => σ.length = n → te σ H Q) :=
  ⟨fun pins s σ H Q I q => h.run pins s σ H Q I (q (by rw [← hn]; exact I.len))⟩
/-- f(k = e, ..) -/
theorem peCallK0 {CX : CXT} {k : Nat} {f : Addr} {fd : FuncData} {ps ks : List Str} {sp : Sp} {E : XK} {x : Str} {p pos : Pos} {kws : List Keyword} {tk : TA} {g : List Value → List Value → List Value} {gV : List V → List V → List V}
    (F : FnOk X.prog X.w X.K X.mg X.base CX k f fd ps sp) (hr : Room k X.A) (hg : Gl X x) (hm : X.mg x = some (.ref f)) (hk : PySem.W.keepIn X.K (.ref f) = true) (hb : KBinds X.K fd ps ks g gV) (hx : Passes CX X E) (hkw : PK X kws tk)
    (hall : (backToKw pos (keywordEach kws X.env)).all (·.1.isSome) = true := by rfl) (hks : (backToKw pos (keywordEach kws X.env)).filterMap (·.1) = ks := by rfl) (hdb : (x == ("__debug__" : Str)) = false := by decide)
    (hpl : ((backTo pos (starEach [] X.env)).any (·.1) || (backToKw pos (keywordEach kws X.env)).any (·.1.isNone)) = false := by rfl) : PE X (.Call (.Name x p) [] kws pos) (tCallK sp gV E tNil tk) := by
  refine ⟨fun pins s σ H Q I h => wpAny_Call_Name_kw (ld_glob I hg hm ?_ hdb)⟩
  refine PySem.W.callWith_KW0 (h₀ := X.base) I.ok.mod.kin hk hall (thn (hkw.run pos pins s σ H _ I h) fun ws s2 ⟨zs, H2, I2, rz, q2⟩ => ⟨I2.kIn, ?_⟩) hpl
  rw [hks]
  exact run_fnk F hr hb hx I2 .nil rz q2
/-! ### a def without parameters handed over, called in a try -/
/-- try: work() / except C as w: return w.f -/
def TNone (CN : Addr) (f : Str) : (XK → Hp → VK → Prop) → Hp → VK → Prop := fun tl H Q => tl (fun cls d H' => cls = .ref CN ∧ ∃ (dx : Addr) (fs : List (Str × V)) (v : V), d = some dx ∧ H' dx = some (exd dx fs) ∧ fs.lookup f = some v ∧ Q v H') H fun _ H' => Q .non H'
theorem noneGives {Ng : List Str} {x a e q n f : Str} {sg : Scope} {g CN : Addr} {cdg : Value} {bm : List Value} {p1 p2 p3 p4 p5 p6 p7 p8 p9 p10 p11 : Pos} {kn : Nat} (T : EC X.K CN bm) (no : PySem.W.findIn X.K (.ref CN) f = some none) (hge : sg.names.lookup e = some .globalImplicit) (hme : X.mg e = some (.ref CN))
    (hde : (e == ("__debug__" : Str)) = false) (h0 : ∀ w : Addr, (start Ng [V.ref w])[0]? = some (some (V.ref w))) (nd : Ng.Nodup) (n1 : Ng[1]? = some n) (nl : sg.names.lookup n = some .local) (l2 : Ng.length = 2) (vn : Vis sg n) (hdn : (n == ("__debug__" : Str)) = false) (hcn : (n == ("__classdict__" : Str)) = false) (kd : sg.kind = .function) :
    LamX.GivesTo X Ng x sg g cdg [.Try [.Expr (.Call (.Name a p1) [] [] p2) p3] [.ExceptHandler (some (.Name e p4)) (some n) [.Return (some (.Attribute (.Name n p5) f p6)) p7] p8] [] [] p9, .Return (some (.Constant .none kn p10)) p11] a q (TNone CN f) := by
  intro w c' s H Q tl act hc h
  let Z : Cx := (cxOf C8.CX0 X.prog X.w X.K X.mg X.base Ng x sg g cdg X.A X.stack s H C8.E0).nox
  have hgl : Gl Z e := hge
  have sub : PySem.W.subIn X.K (.ref CN) (.ref CN) = some true := by
    rw [T.sub, List.contains_cons]
    simp
  have same : PySem.W.exmOne X.K (.ref CN) (.ref CN) = some true := PySem.W.exm_ref T.exC T.hdC T.tyC sub
  refine ⟨_, pss_cons (ps_try_as (X := Z) (c := .ref CN) (i := 1)
      (tb := fun W D σ H => ∃ Ech : XK, (∀ cls d σ' H', Ech cls d H' → W cls d σ' H') ∧ σ = start Ng [V.ref w] ∧ H c' = some (LamX.CodeO c' q) ∧ tl Ech H fun _ H' => D.nx σ H')
      rfl rfl nd n1 nl ⟨hgl, hde, .inl hme⟩ LamX.takes0 (fun W pn xe tk _ => ?_) (fun a' oe cls d pn hz hf => pss_one (ps_ret (peCg hz hf (peLen (n := 2) l2 (pe_var (i := 1) n1 vn hdn hcn)))))) (pss_one (ps_ret pe_non)), ?_⟩
  · refine ⟨fun pins s' σ H' D I h' => ?_⟩
    obtain ⟨Ech, hW, rfl, h2, h3⟩ := h'
    exact (pss_one (ps_expr (act W pn xe Ech p1 p2 tk hW))).run pins s' _ H' D I ⟨h0 w, h2, h3⟩
  · refine ⟨_, fun cls d σ' H' hE => ?_, rfl, hc, h⟩
    obtain ⟨rfl, dx, fs, v, rfl, hd, hl, hq⟩ := hE
    refine ⟨true, same, fun _ a' ha' => ?_, fun z => nomatch z⟩
    intro ln
    have e1 : (σ'.set 1 (some (V.ref a')))[1]? = some (some (V.ref a')) := by
      rw [List.length_set] at ln
      rw [List.getElem?_set_self (by omega)]
    exact ⟨_, e1, rfl, CN, bm, dx, fs, v, rfl, T, no, rfl, hd, hl, hq⟩
end
end L2.Bv


namespace L2.Bv
open PySem PySem.Spec PyProof.Rows Bov
/-! ### the law's own call, where no repr runs around and defs within defs are made -/
/-- the tables of code objects, all empty at first -/
structure TabsAt (K : PySem.W.Frag) (h : Heap) (cs : List (Addr × Addr)) : Prop where
  em : ∀ p ∈ cs, h.get? p.2 = some { cls := .none, data := .fields #[] }
  out : ∀ p ∈ cs, K.lookup p.2 = none
  hd : ∀ p ∈ cs, PySem.W.CodeHd h p.1 p.2
def isTb (cs : List (Addr × Addr)) (b : Addr) : Prop := ∃ p ∈ cs, p.2 = b
theorem lawCallTG {P : Program} {w : World} {K : PySem.W.Frag} {mg mb : Str → Option Value} {k : Nat} {fa a : Addr} {cs : List (Addr × Addr)} {fd : FuncData} {x : Str} {sp : Sp} {s₁ : Shared} {vs : List Value} {ns : List Int}
    (KX : K.In s₁.heap) (hns : s₁.heap.Ns mainGlobals mg) (hb : s₁.heap.Ns builtinsNs mb) (hbb : ∀ x : Str, x ≠ "__name__" → mb x = bootBuiltins x) (hlim : s₁.heap.NoLimit) (hg : s₁.gens = #[]) (tb : TabsAt K s₁.heap cs)
    (hbm : ∃ (bm : Addr) (ob : Obj), mg "__builtins__" = some (.ref bm) ∧ bm ≠ builtinsNs ∧ s₁.heap.get? bm = some ob ∧ ob.cls = .type "module" ∧ ob.dict = some builtinsNs ∧ ob.data = .plain)
    (ha : s₁.heap.get? a = some { cls := .type "list", data := .seq vs.toArray }) (hi : IntsAre vs ns) (hl : ns.length ≤ sizeLine) (hr : Room k callerA)
    (F : ∀ base : Heap, K.In base → base.Ns mainGlobals mg → (∀ p ∈ cs, LamX.TabB base mg p.1 p.2) → FnG P w K mg base CX0 k fa fd [x] sp) (bind : ∀ (s : Shared) (u : Value), BindsTo s fd ⟨[u], []⟩ [(x, u)])
    (hsp : ∀ H : Hp, (∀ p ∈ cs, H p.2 = some (.tbl #[])) → SqL K H a (ns.map V.int) → sp [.ref a] H (fun v _ => v = .bl true) fun _ _ _ => False) :
    codeAny (model P w) callerA (.call (.ref fa) ⟨[.ref a], []⟩) (fun r s' => r = .ok (.ret (.bool true)) ∧ OldK s₁.heap s'.heap ∧ s'.os = s₁.os ∧ AllBare s'.gens) s₁ := by
  have rv := vals_ints hi
  have lenV := hi.length
  have emT : ∀ {b : Addr}, isTb cs b → s₁.heap.get? b = some { cls := .none, data := .fields #[] } := fun {b} ⟨p, hp, e⟩ => by
    rw [← e]
    exact tb.em p hp
  have aOff : ¬ isTb cs a := fun z => by
    have e := emT z
    rw [ha] at e
    cases e
  have go : ∀ H : Hp, (∀ p ∈ cs, H p.2 = some (.tbl #[])) → (∀ b, H b = none ∨ isTb cs b ∨ ∃ o ys, H b = some (.frz o (.lst ys))) → SqL K H a (ns.map V.int) → HOk P w H s₁.heap → (∀ b, H b ≠ none → b = a ∨ isTb cs b) → (H a ≠ none → K.lookup a = none) →
      codeAny (model P w) callerA (.call (.ref fa) ⟨[.ref a], []⟩) (fun r s' => r = .ok (.ret (.bool true)) ∧ OldK s₁.heap s'.heap ∧ s'.os = s₁.os ∧ AllBare s'.gens) s₁ := by
    intro H hT only hS hok one hK
    -- what is neither a list nor an empty table is not told of
    have untold : ∀ {b : Addr} {o : Obj}, s₁.heap.get? b = some o → (∀ us m, o.data ≠ .seq us m) → o.data ≠ .fields #[] → H b = none := fun {b o} e0 n1 n2 => by
      cases q0 : H b with
      | none => rfl
      | some u =>
        rcases one b (by rw [q0]; exact fun z => nomatch z) with z | z
        · subst z
          rw [ha] at e0
          cases e0
          exact absurd rfl (n1 _ _)
        · rw [emT z] at e0
          cases e0
          exact absurd rfl n2
    have seen : ∀ {b : Addr} {o : Obj}, s₁.heap.get? b = some o → (∀ us m, o.data ≠ .seq us m) → o.data ≠ .fields #[] → (hidT s₁.heap H).get? b = some o := fun e0 n1 n2 => hidT_get e0 (untold e0 n1 n2)
    have nsT : ∀ {b : Addr} {m : Str → Option Value}, s₁.heap.Ns b m → (hidT s₁.heap H).Ns b m := fun {b m} ⟨o, es, ep, e0, d0, r0⟩ =>
      ⟨o, es, ep, seen e0 (fun us m z => by rw [d0] at z; cases z) (fun z => by rw [d0] at z; cases z), d0, r0⟩
    have inT : K.In (hidT s₁.heap H) := fun b o e0 => hidT_get (KX b o e0) (by
      cases q0 : H b with
      | none => rfl
      | some u =>
        rcases one b (by rw [q0]; exact fun z => nomatch z) with z | ⟨p, hp, z⟩
        · subst z
          rw [hK (by rw [q0]; exact fun z => nomatch z)] at e0
          cases e0
        · rw [← z, tb.out p hp] at e0
          cases e0)
    have md : Mod K mg (hidT s₁.heap H) := ⟨inT, nsT hns, ⟨mb, nsT hb, hbb⟩, let ⟨mc, z1, z2⟩ := hlim; ⟨mc, nsT z1, z2⟩⟩
    have tbB : ∀ p ∈ cs, LamX.TabB (hidT s₁.heap H) mg p.1 p.2 := fun p hp => by
      obtain ⟨bm, ob, b1, b2, b3, b4, b5, b6⟩ := hbm
      obtain ⟨og, eg, ng, g1, g2, _⟩ := hns
      have bg : bm ≠ mainGlobals := fun z => by
        rw [z, g1] at b3
        cases b3
        rw [g2] at b6
        cases b6
      have bp : bm ≠ p.2 := fun z => by
        rw [z, tb.em p hp] at b3
        cases b3
        cases b6
      have gp : mainGlobals ≠ p.2 := fun z => by
        rw [z, tb.em p hp] at g1
        cases g1
        cases g2
      have b3' := seen b3 (fun us m z => by rw [b6] at z; cases z) (fun z => by rw [b6] at z; cases z)
      refine ⟨?_, ⟨bm, ob, b1, b2, bg, bp, b3', b4, b5, b6⟩, gp⟩
      obtain ⟨oc, us, fl, tf, fg, tg, inF, tx, tt, c1, c2, c3, c4, rest⟩ := tb.hd p hp
      refine ⟨oc, us, fl, tf, fg, tg, inF, tx, tt, seen c1 (fun us m z => by rw [c3] at z; cases z) (fun z => ?_), c2, c3, c4, rest⟩
      rw [c3] at z
      cases z
      cases c4
    have e0 : Env0 P w K mg (hidT s₁.heap H) callerA [] s₁ H := ⟨rfl, md, fun b o z => of_hidT z, Nat.le_of_eq (hidT_size _ _), trivial, fun b z => absurd (show b ∈ ([] : List Addr) from z) (by simp), hok, .of_eq hg⟩
    refine codeAny_mono ((F _ inT (nsT hns) tbB).run callerA [] s₁ H ⟨[.ref a], []⟩ [.ref a] [.ref a] _ _ hr rfl e0 (bind s₁ (.ref a)) (.cons rfl .nil) (hsp H hT hS)) fun r s' z => ?_
    cases r with
    | error e => exact False.elim z
    | ok fl =>
      cases fl with
      | next => exact False.elim z
      | brk => exact False.elim z
      | cont => exact False.elim z
      | ret u =>
        obtain ⟨v, H', os, bare, un, hok', r', q⟩ := z
        have q' : v = .bl true := q
        subst q'
        obtain rfl : u = Value.bool true := r'
        have stays : ∀ b o, ¬ isTb cs b → s₁.heap.get? b = some o → s'.heap.get? b = some o := fun b o nb e1 => by
          rcases only b with q0 | q0 | ⟨ob, ys, q0⟩
          · exact un.keep b o e1 q0 (fun z => absurd (show b ∈ ([] : List Addr) from z) (by simp)) (by simp)
          · exact absurd q0 nb
          · obtain ⟨y1, _⟩ := hok b _ q0
            obtain ⟨y2, _⟩ := hok' b _ (un.frzs b ob _ q0)
            rw [e1] at y1
            cases y1
            exact y2
        have grows : ∀ p ∈ cs, ∃ more : Array Value, s'.heap.get? p.2 = some { cls := .none, data := .fields more } := fun p hp => by
          obtain ⟨more, z⟩ := un.tbls p.2 #[] (hT p hp)
          exact ⟨_, hok' p.2 _ z⟩
        refine ⟨rfl, ⟨fun b o e1 => ?_, fun b o e1 => ?_⟩, os, bare⟩
        · by_cases hb : isTb cs b
          · obtain ⟨p, hp, rfl⟩ := hb
            obtain ⟨more, hm⟩ := grows p hp
            have em := tb.em p hp
            rw [em] at e1
            cases e1
            refine .inr (.inl ⟨((tb.hd p hp).tab em).isCodeTable, rfl, #[], more, rfl, ?_⟩)
            rw [Array.empty_append]
            exact hm
          · exact .inl (stays b o hb e1)
        · by_cases hb : isTb cs b
          · obtain ⟨p, hp, rfl⟩ := hb
            exact (grows p hp).imp' _ fun _ z => z
          · exact ⟨o, stays b o hb e1⟩
  have tbOf : ∀ {f : Addr → Option HO} {p : Addr × Addr}, p ∈ cs → isTb cs p.2 := fun {f p} hp => ⟨p, hp, rfl⟩
  have dec : ∀ b, isTb cs b ∨ ¬ isTb cs b := fun b => Classical.em _
  cases hk : K.lookup a with
  | some o =>
    have e := KX a o hk
    rw [ha] at e
    cases e
    let H0 : Hp := fun b => @ite _ (isTb cs b) (Classical.propDecidable _) (some (.tbl #[])) none
    have yes : ∀ {b}, isTb cs b → H0 b = some (.tbl #[]) := fun z => @if_pos _ (Classical.propDecidable _) z _ _ _
    have no : ∀ {b}, ¬ isTb cs b → H0 b = none := fun z => @if_neg _ (Classical.propDecidable _) z _ _ _
    refine go H0 (fun p hp => yes ⟨p, hp, rfl⟩) (fun b => (dec b).elim (fun z => .inr (.inl z)) fun z => .inl (no z)) ?_ (fun b u z => ?_) (fun b z => ?_) fun z => absurd (no aOff) z
    · exact .inr ⟨_, vs.toArray, _, hk, rfl, rfl, rfl, by rw [List.size_toArray, lenV]; exact hl, by simpa using rv⟩
    · rcases dec b with t | t
      · rw [yes t] at z
        cases z
        exact emT t
      · rw [no t] at z
        cases z
    · rcases dec b with t | t
      · exact .inr t
      · exact absurd (no t) z
  | none =>
    let H0 : Hp := fun b => if b = a then some (.frz { cls := .type "list", data := .seq vs.toArray } (.lst (ns.map V.int))) else @ite _ (isTb cs b) (Classical.propDecidable _) (some (.tbl #[])) none
    have at_a : H0 a = some (.frz { cls := .type "list", data := .seq vs.toArray } (.lst (ns.map V.int))) := if_pos rfl
    have yes : ∀ {b}, isTb cs b → H0 b = some (.tbl #[]) := fun {b} z => (if_neg (fun e => aOff (by rw [← e]; exact z))).trans (@if_pos _ (Classical.propDecidable _) z _ _ _)
    have no : ∀ {b}, b ≠ a → ¬ isTb cs b → H0 b = none := fun n z => (if_neg n).trans (@if_neg _ (Classical.propDecidable _) z _ _ _)
    refine go H0 (fun p hp => yes ⟨p, hp, rfl⟩) (fun b => ?_) (.inl (.inr ⟨_, at_a⟩)) (fun b u z => ?_) (fun b z => ?_) fun _ => hk
    · by_cases eb : b = a
      · rw [eb]
        exact .inr (.inr ⟨_, _, at_a⟩)
      · exact (dec b).elim (fun z => .inr (.inl z)) fun z => .inl (no eb z)
    · by_cases eb : b = a
      · subst eb
        rw [at_a] at z
        cases z
        exact ⟨ha, by rw [List.length_map]; exact hl, vs, _, rv, ha⟩
      · rcases dec b with t | t
        · rw [yes t] at z
          cases z
          exact emT t
        · rw [no eb t] at z
          cases z
    · by_cases eb : b = a
      · exact .inl eb
      · rcases dec b with t | t
        · exact .inr t
        · exact absurd (no eb t) z
theorem walkTG {l : PySem.W.OpenLaw} {n k : Nat} {q : Program} {loose : List Str} {XP : (Str → Option Value) → Heap → Prop} {YP : World → Heap → Prop} {d : DefRec} {x : Str}
    (hn : l.most = some n) (hn2 : n ≤ sizeLine) (hdf : d.params.defaults = []) (hr : Room k callerA)
    (F : ∀ (w : World) (mg : Str → Option Value) (fa : Addr) (h : Heap), YP w h → h.Ns mainGlobals mg → mg d.name = some (.ref fa) →
      ∃ (K : PySem.W.Frag) (fd : FuncData) (cs : List (Addr × Addr)) (sp : Sp), K.In h ∧ TabsAt K h cs ∧ (∀ (s : Shared) (u : Value), BindsTo s fd ⟨[u], []⟩ [(x, u)]) ∧
        (∀ (H : Hp) (a : Addr) (ns : List Int), ns.length ≤ n → (∀ p ∈ cs, H p.2 = some (.tbl #[])) → SqL K H a (ns.map V.int) → sp [.ref a] H (fun v _ => v = .bl true) fun _ _ _ => False) ∧
        ∀ base : Heap, K.In base → base.Ns mainGlobals mg → (∀ p ∈ cs, LamX.TabB base mg p.1 p.2) → FnG l.prog w K mg base CX0 k fa fd [x] sp) :
    PySem.W.WalkO q loose XP YP l.row.toRowW d [] (fun f vs => PySem.call f vs) := by
  refine Att.attach_call hn hdf fun w s₀ s₁ mg mb fa o pm cd doc a vs ns G Y ho hd hcd hmg hobj hints hlen hg => ?_
  obtain ⟨K, fd, cs, sp, KX, tb, hb, hsp, hF⟩ := F w mg fa _ Y G.T.g hmg
  exact lawCallTG KX G.T.g G.T.b G.T.builtins G.T.nolimit hg tb G.T.bmain hobj hints (Nat.le_trans hlen hn2) hr hF hb fun H hT hS => hsp H a ns hlen hT hS
end L2.Bv


namespace L2.K2
open PySem L2 L2.Bv L2.Pc L2.Ts PyProof.Rows Bov
/-- what a strange name brings -/
def OddTold (CN : Addr) (z : Str) (H : Hp) (E : XK) : Prop := ∀ (d : Addr) (H' : Hp), Same H H' → H' d = some (exd d [("name", .str z)]) → E (.ref CN) (some d) H'
def spOdd (K : PySem.W.Frag) (C CN : Addr) : Sp := fun vs H _ E => ∃ (x : Addr) (hs : List Str) (ns : List Nt) (z : Str), vs = [.ref x, .str z] ∧ PactAt K C H x hs ns ∧ (∀ i, i < ns.length → nameAt ns i ≠ z) ∧ OddTold CN z H E
section
variable {P : Program} {w : World} {K : PySem.W.Frag} {mg : Str → Option Value} {base : Heap} {C CN : Addr} {bm : List Value}
theorem ok_numX {f : Addr} {fd : FuncData} (T : PcK K C) (M : ExM P w K mg base CN "name" bm "NoName") (F : Fun K "note_number" "note_number" sNum f fd) : FnOk P w K mg base (L2.CX P w) 3 f fd ["pact", "note"] (spOdd K C CN) := by
  refine F.okX scNum (fun vs H Q E h => ?_) (fun cdv A outer s H vs Q E hr h => ?_)
  · obtain ⟨x, hs, ns, z, rfl, _⟩ := h
    rfl
  obtain ⟨x, hs, ns, z, rfl, pa, odd, q⟩ := h
  have hu := hu_of hr
  obtain ⟨dx, nn, rw, un, nx, nm, fs, kvs, rv, xv, ms, e, ⟨a1, a2, a3⟩, _⟩ := pa
  refine ⟨_, pss_cons (ps_if (pt_cmp (pc_dnotin hu (pv 1) (pe_fld (pv 0) rfl))) (pss_one (psRaise rfl (takes_of rfl rfl rfl rfl) rfl (peEx M hr (pv 1)))) pss_nil) (pss_one ps_never), ?_⟩
  have no : valV kvs (.inr z) = none := by
    cases e0 : valV kvs (.inr z) with
    | none => rfl
    | some v =>
      obtain ⟨j, lj, ej⟩ := a3.2.2 (.inr z) (by rw [e0]; rfl)
      exact absurd (Sum.inr.inj ej) (odd j lj)
  have g := DGet.k (k := Sum.inr z) a2
  rw [no] at g
  refine ⟨_, rfl, _, rfl, x, C, dx, fs, _, rfl, e, T.cl, T.a6, a1, nn, _, rfl, g, _, rfl, iteT ⟨_, rfl, fun a d na nd ne => ⟨a, CN, bm, some d, rfl, M.ec, upd_same, na, q d _ (fun b o eb => ?_) ?_⟩⟩⟩
  · rw [delH_ne (ne_of_none eb na), upd_ne (ne_of_none eb na), upd_ne (ne_of_none eb nd)]
    exact eb
  · rw [delH_ne ne, upd_ne ne, upd_same]
end
end L2.K2


namespace L2.Bv
open PySem L2
/-! ### slots that a comprehension leaves -/
theorem wipe_out2 {σ : St} {v : Option V} {i : Nat} : ∀ {vs : List Nat}, i ∉ vs → wipe (σ.set i v) vs = (wipe σ vs).set i v
  | [], _ => rfl
  | w :: r, h => by
    show (wipe (σ.set i v) r).set w none = ((wipe σ r).set w none).set i v
    rw [wipe_out2 (fun z => h (List.mem_cons_of_mem _ z)), List.set_comm _ _ (fun z => h (by rw [z]; exact List.mem_cons_self))]
theorem wipe_set {σ : St} {v : Option V} {i : Nat} : ∀ {vs : List Nat}, i ∈ vs → wipe (σ.set i v) vs = wipe σ vs
  | [], h => by cases h
  | w :: r, h => by
    show (wipe (σ.set i v) r).set w none = (wipe σ r).set w none
    by_cases m : i ∈ r
    · rw [wipe_set m]
    · have e : i = w := by
        rcases List.mem_cons.mp h with z | z
        · exact z
        · exact absurd z m
      rw [wipe_out2 m, e, List.set_set]
theorem wipe_idem {σ : St} : ∀ {vs : List Nat}, wipe (wipe σ vs) vs = wipe σ vs
  | [] => rfl
  | w :: r => by
    have e : wipe σ (w :: r) = (wipe σ r).set w none := rfl
    rw [e, wipe_set List.mem_cons_self]
    show (wipe (wipe σ r) r).set w none = _
    rw [wipe_idem]
theorem wipe3 {σ : St} {a b c : Option V} {i j k : Nat} {vs : List Nat} (hi : i ∈ vs := by decide) (hj : j ∈ vs := by decide) (hk : k ∈ vs := by decide) : wipe ((((wipe σ vs).set i a).set j b).set k c) vs = wipe σ vs := by
  rw [wipe_set hk, wipe_set hj, wipe_set hi, wipe_idem]
theorem wipe2 {σ : St} {a b : Option V} {i j : Nat} {vs : List Nat} (hi : i ∈ vs := by decide) (hj : j ∈ vs := by decide) : wipe (((wipe σ vs).set i a).set j b) vs = wipe σ vs := by
  rw [wipe_set hj, wipe_set hi, wipe_idem]
theorem wipe1 {σ : St} {a : Option V} {i : Nat} {vs : List Nat} (hi : i ∈ vs := by decide) : wipe ((wipe σ vs).set i a) vs = wipe σ vs := by
  rw [wipe_set hi, wipe_idem]
theorem look_ne {σ : St} {a : Option V} {i j : Nat} {v : Option (Option V)} (h : i ≠ j) (e : σ[j]? = v) : (σ.set i a)[j]? = v := by
  rw [List.getElem?_set_ne h]
  exact e
theorem look_eq {σ : St} {a : Option V} {i : Nat} (h : i < σ.length) : (σ.set i a)[i]? = some a := List.getElem?_set_self h
theorem look_wipe {σ : St} {vs : List Nat} {j : Nat} {v : Option (Option V)} (h : j ∉ vs) (e : σ[j]? = v) : (wipe σ vs)[j]? = v := (wipe_out h).trans e
theorem len_set {σ : St} {a : Option V} {i n : Nat} (h : n < σ.length) : n < (σ.set i a).length := by
  rw [List.length_set]
  exact h
theorem len_wipe {σ : St} {vs : List Nat} {n : Nat} (h : n < σ.length) : n < (wipe σ vs).length := by
  rw [wipe_length]
  exact h
end L2.Bv


namespace L2.K2
open PySem L2 L2.Bv L2.Pc L2.Ts PyProof.Rows Bov LamX
theorem atS {t r : TS} {D : Ends} {H : Hp} {σ σ' : St} (e : σ = σ') (h : tSeq t r D σ' H) : tSeq t r D σ H := by
  rw [e]
  exact h
/-! ### data that fit a repr -/
structure Fit (k b : Nat) (d : PyData) : Prop where
  short : d.leavesShort 13 = true
  shows : d.showable = true
  plain : d.hasDict = false
  deep : d.depth ≤ k
  small : d.bulk ≤ b
theorem fitAll {k b : Nat} : ∀ ds : List PyData, (∀ d ∈ ds, Fit k b d) → PyData.leavesShortAll 13 ds = true ∧ PyData.showableAll ds = true ∧ PyData.hasDictAll ds = false ∧ PyData.depthAll ds ≤ k ∧ PyData.bulkAll ds ≤ ds.length * (b + 1)
  | [], _ => ⟨by simp [PyData.leavesShortAll], by simp [PyData.showableAll], by simp [PyData.hasDictAll], by simp [PyData.depthAll], by simp [PyData.bulkAll]⟩
  | d :: r, h => by
    obtain ⟨a1, a2, a3, a4, a5⟩ := fitAll r fun z hz => h z (List.mem_cons_of_mem _ hz)
    obtain ⟨b1, b2, b3, b4, b5⟩ := h d List.mem_cons_self
    refine ⟨by simp [PyData.leavesShortAll, a1, b1], by simp [PyData.showableAll, a2, b2], by simp [PyData.hasDictAll, a3, b3], by simp only [PyData.depthAll]; omega, ?_⟩
    simp only [PyData.bulkAll, List.length_cons, Nat.succ_mul]
    omega
theorem fitTup {k b n : Nat} {ds : List PyData} (h : ∀ d ∈ ds, Fit k b d) (l : ds.length ≤ n) : Fit (k + 1) (n * (b + 1)) (.tuple ds) := by
  obtain ⟨a1, a2, a3, a4, a5⟩ := fitAll ds h
  have a6 : PyData.bulkAll ds ≤ n * (b + 1) := Nat.le_trans a5 (Nat.mul_le_mul_right _ l)
  exact ⟨by simpa [PyData.leavesShort] using a1, by simpa [PyData.showable] using a2, by simpa [PyData.hasDict] using a3, by simp only [PyData.depth]; omega, by simpa only [PyData.bulk] using a6⟩
theorem fitNat {n : Nat} (h : n ≤ 1000) : Fit 0 0 (.int ((n : Nat) : Int)) := by
  have e : (((n : Nat) : Int)).natAbs = n := Int.natAbs_natCast n
  have lt : n < 10 ^ 12 := by omega
  refine ⟨?_, ?_, by simp [PyData.hasDict], by simp [PyData.depth], by simp [PyData.bulk]⟩
  · simp only [PyData.leavesShort, decide_eq_true_eq]
    exact PyData.shown_int_le (by rw [e]; exact lt)
  · simp only [PyData.showable, decide_eq_true_eq]
    rw [e]
    by_cases z : n = 0
    · rw [z]
      decide
    · exact (Nat.log2_lt z (k := 1920)).mpr (Nat.lt_trans lt (by decide +kernel))
theorem Fit.len {k b : Nat} {d : PyData} (h : Fit k b d) (hb : b ≤ 1000000) : d.shown.length ≤ sizeLine := PyData.shown_fits_bulk (B := 13) (by decide) (by decide) h.short (Nat.le_trans h.small (Nat.le_trans hb (by decide)))
theorem fitNats {ns : List Nat} (h : ∀ n ∈ ns, n ≤ 1000) (l : ns.length ≤ 6) : Fit 1 6 (dNats ns) := by
  have z := fitTup (k := 0) (b := 0) (n := 6) (ds := ns.map fun (n : Nat) => PyData.int ((n : Nat) : Int)) (fun d hd => by
    obtain ⟨n, hn, rfl⟩ := List.mem_map.mp hd
    exact fitNat (h n hn)) (by rw [List.length_map]; exact l)
  exact z
/-! ### what stands whatever happens to the deal and to the tables -/
/-- all stands but the deal and the tables -/
def KT (dl cl : Addr) (H H' : Hp) : Prop := ∀ x o, x ≠ dl → x ≠ cl → (∀ ps, o ≠ .tbl ps) → H x = some o → H' x = some o
section
variable {dl cl : Addr} {H H' H1 : Hp}
theorem KT.refl : KT dl cl H H := fun _ _ _ _ _ h => h
theorem KT.trans (a : KT dl cl H H1) (b : KT dl cl H1 H') : KT dl cl H H' := fun x o n1 n2 n3 h => b x o n1 n2 n3 (a x o n1 n2 n3 h)
theorem KT.of (k : Keep dl cl H H') : KT dl cl H H' := fun x o n1 n2 _ h => k x o n1 n2 h
theorem KT.same (k : Same H H') : KT dl cl H H' := fun x o _ _ _ h => k x o h
theorem KT.ext (e : ExtN H H') : KT dl cl H H' := fun x o _ _ n h => e x o h n
theorem KT.lst {a : Addr} {xs : List V} (k : KT dl cl H H') (n : a ≠ dl ∧ a ≠ cl) (h : H a = some (.lst xs)) : H' a = some (.lst xs) := k _ _ n.1 n.2 (fun _ z => nomatch z) h
theorem KT.tup {a : Addr} {xs : List V} (k : KT dl cl H H') (n : a ≠ dl ∧ a ≠ cl) (h : H a = some (.tup xs)) : H' a = some (.tup xs) := k _ _ n.1 n.2 (fun _ z => nomatch z) h
theorem KT.fz {a : Addr} {xs : List V} (k : KT dl cl H H') (n : a ≠ dl ∧ a ≠ cl) (h : FzT H a xs) : FzT H' a xs := let ⟨o, dn, cl', e⟩ := h; ⟨o, dn, cl', k _ _ n.1 n.2 (fun _ z => nomatch z) e⟩
theorem KT.dk {a : Addr} {xs : List (Key × V)} (k : KT dl cl H H') (n : a ≠ dl ∧ a ≠ cl) (h : H a = some (.dK xs)) : H' a = some (.dK xs) := k _ _ n.1 n.2 (fun _ z => nomatch z) h
theorem offDc {x : Addr} (h : ¬ dc dl cl x) : x ≠ dl ∧ x ≠ cl := ⟨fun z => h (.inl z), fun z => h (.inr z)⟩
theorem PtAt.kt {p h n r pp : Addr} {hs : List Str} {xs : List V} {ns : List Nt} {rs ps : List Str} (a : PtAt (dc dl cl) H p h n r pp hs xs ns rs ps) (k : KT dl cl H H') : PtAt (dc dl cl) H' p h n r pp hs xs ns rs ps :=
  ⟨k.tup (offDc a.off.1) a.ep, k.lst (offDc a.off.2.1) a.eh, k.lst (offDc a.off.2.2.1) a.en, ⟨a.nt.1, fun i v hv => let ⟨x, q, e, n1, n2, e1, e2⟩ := a.nt.2 i v hv; ⟨x, q, e, n1, n2, k.tup (offDc n1) e1, k.tup (offDc n2) e2⟩⟩, k.lst (offDc a.off.2.2.2.1) a.er, k.tup (offDc a.off.2.2.2.2) a.epp, a.off⟩
theorem PtAt.parts {K : PySem.W.Frag} {S : Addr → Prop} {p h n r pp : Addr} {hs : List Str} {xs : List V} {ns : List Nt} {rs ps : List Str} (a : PtAt S H p h n r pp hs xs ns rs ps) : PartsAt K H h n r pp hs xs ns rs ps :=
  ⟨SqL.of a.eh, SqL.of a.en, ⟨a.nt.1, fun i v hv => let ⟨x, q, e, _, _, e1, e2⟩ := a.nt.2 i v hv; ⟨x, q, e, SqT.of e1, SqT.of e2⟩⟩, SqL.of a.er, SqT.of a.epp⟩
theorem PactMade.kt {K : PySem.W.Frag} {C x : Addr} {H0 H2 : Hp} {hs : List Str} {ns : List Nt} (h : PactMade C H0 H' x hs ns) (of : ∀ y, H0 y = none → y ≠ dl ∧ y ≠ cl) (ox : x ≠ dl ∧ x ≠ cl) (k : KT dl cl H' H2) : PactAt K C H2 x hs ns := by
  obtain ⟨dx, nn, rw, un, nx, nm, fs, kvs, rv, xv, ms, e, ⟨a1, a0, a2, a3⟩, ⟨b1, b0, b2, b3⟩, ⟨c1, c0, c2, c3⟩, ⟨d1, d0, d2, d3⟩, e1, e0, e2⟩ := h
  exact ⟨dx, nn, rw, un, nx, nm, fs, kvs, rv, xv, ms, k _ _ ox.1 ox.2 (fun _ z => nomatch z) e, ⟨a1, k.dk (of _ a0) a2, a3⟩, ⟨b1, SqT.of (k.tup (of _ b0) b2), b3.1, fun i v hv => let ⟨p, p1, p2, p3⟩ := b3.2 i v hv; ⟨p, p1, (k.fz (of _ p2) p3).sq⟩⟩,
    ⟨c1, SqT.of (k.tup (of _ c0) c2), c3⟩, ⟨d1, SqT.of (k.tup (of _ d0) d2), d3.1, fun i v hv => let ⟨p, p1, p2, p3⟩ := d3.2 i v hv; ⟨p, p1, (k.fz (of _ p2) p3).sq⟩⟩, e1, SqT.of (k.tup (of _ e0) e2)⟩
/-- tables stay when only the deal changes -/
theorem tabsKeep {T : List (Addr × Str)} (t : Tabs T H) (D : DealAt H dl cl) (k : Keep dl cl H H') : Tabs T H' := fun p hp => by
  obtain ⟨cs, m, d1, d2, _⟩ := D.ex
  obtain ⟨ps, h1, h2, h3⟩ := t p hp
  have off : ∀ {a : Addr} {o : HO}, H a = some o → (∀ xs, o ≠ .lst xs) → a ≠ dl ∧ a ≠ cl := fun {a o} e n => ⟨fun z => by
    rw [z, d1] at e
    exact n _ (Option.some.inj e).symm, fun z => by
    rw [z, d2] at e
    exact n _ (Option.some.inj e).symm⟩
  have o1 := off h1 (fun _ z => nomatch z)
  refine ⟨ps, k _ _ o1.1 o1.2 h1, h2, fun pos cv hc => ?_⟩
  obtain ⟨c, e1, e2⟩ := h3 pos cv hc
  have o2 := off e2 (fun xs z => by
    unfold CodeO at z
    cases z)
  exact ⟨c, e1, k _ _ o2.1 o2.2 e2⟩
theorem tabsSame {T : List (Addr × Str)} (t : Tabs T H) (s : Same H H') : Tabs T H' := t.ext s
end
end L2.K2


namespace L2.K2
open PySem L2 L2.Bv L2.Pc L2.Ts PyProof.Rows Bov LamX
/-- rows whose methods may be called -/
def TabFz (H : Hp) (vs : List V) (rows : List (List Nat)) : Prop := vs.length = rows.length ∧ ∀ (i : Nat) (v : V), vs[i]? = some v → ∃ p : Addr, v = .ref p ∧ FzT H p ((rows.getD i []).map nV)
theorem TabFz.same {H H' : Hp} {vs : List V} {rows : List (List Nat)} (h : TabFz H vs rows) (s : Same H H') : TabFz H' vs rows := ⟨h.1, fun i v hv => let ⟨p, a, b⟩ := h.2 i v hv; ⟨p, a, b.same s⟩⟩
/-- all else that a pact keeps, as it stands -/
def PactEx (K : PySem.W.Frag) (C : Addr) (H : Hp) (x : Addr) (hs : List Str) (xs : List V) (ns : List Nt) (rs ps : List Str) : Prop := ∃ (dx t1 t2 t3 dh tb pA rw : Addr) (fs : List (Str × V)) (kvh : List (Key × V)) (wm : Nat) (zs : List Str) (rv : List V), H x = some (.ins C dx fs) ∧
  (fs.lookup ("hands" : Str) = some (.ref t1) ∧ SqT K H t1 (hs.map V.str)) ∧ (fs.lookup ("notes" : Str) = some (.ref t2) ∧ SqT K H t2 xs ∧ NotesAt K H xs ns) ∧ (fs.lookup ("ready" : Str) = some (.ref t3) ∧ SqT K H t3 (rs.map V.str)) ∧
  (fs.lookup ("paper" : Str) = some (.ref pA) ∧ SqT K H pA (ps.map V.str)) ∧ (fs.lookup ("hand_numbers" : Str) = some (.ref dh) ∧ H dh = some (.dK kvh) ∧ Made (fun i => Sum.inr (hs.getD i Str.empty)) nV hs.length kvh) ∧
  (fs.lookup ("whole" : Str) = some (nV wm) ∧ ∀ i, wm.testBit i = true ↔ ∃ j, j < ns.length ∧ nameAt ns j ∈ ps ∧ Und ns i j) ∧
  (fs.lookup ("by_name" : Str) = some (.ref tb) ∧ SqT K H tb (zs.map fun z => nV (numOf ns z)) ∧ zs.Perm (ns.map (·.1)) ∧ sortedS zs = true) ∧
  (fs.lookup ("rows" : Str) = some (.ref rw) ∧ SqT K H rw rv ∧ TabFz H rv (rowsOf ns hs))
theorem PactEx.same {K : PySem.W.Frag} {C x : Addr} {H H' : Hp} {hs : List Str} {xs : List V} {ns : List Nt} {rs ps : List Str} (h : PactEx K C H x hs xs ns rs ps) (s : Same H H') : PactEx K C H' x hs xs ns rs ps := by
  obtain ⟨dx, t1, t2, t3, dh, tb, pA, rw, fs, kvh, wm, zs, rv, e, ⟨a1, a2⟩, ⟨b1, b2, b3⟩, ⟨c1, c2⟩, ⟨d1, d2⟩, ⟨e1, e2, e3⟩, f, ⟨g1, g2, g3⟩, r1, r2, r3⟩ := h
  exact ⟨dx, t1, t2, t3, dh, tb, pA, rw, fs, kvh, wm, zs, rv, s _ _ e, ⟨a1, sameT s a2⟩, ⟨b1, sameT s b2, b3.same s⟩, ⟨c1, sameT s c2⟩, ⟨d1, sameT s d2⟩, ⟨e1, s _ _ e2, e3⟩, f, ⟨g1, sameT s g2, g3⟩, r1, sameT s r2, r3.same s⟩
theorem PactMore.kt {K : PySem.W.Frag} {C x dl cl pA : Addr} {H0 H' H2 : Hp} {hs : List Str} {xs : List V} {ns : List Nt} {rs ps : List Str} (h : PactMore C H0 H' x hs xs ns rs ps pA) (of : ∀ y, H0 y = none → y ≠ dl ∧ y ≠ cl) (ox : x ≠ dl ∧ x ≠ cl) (k : KT dl cl H' H2)
    (nt : NotesAt K H2 xs ns) (pp : SqT K H2 pA (ps.map V.str)) : PactEx K C H2 x hs xs ns rs ps := by
  obtain ⟨dx, t1, t2, t3, dh, tb, rw, fs, kvh, wm, zs, rv, e, ⟨a1, a0, a2⟩, ⟨b1, b0, b2⟩, ⟨c1, c0, c2⟩, d1, ⟨e1, e0, e2, e3⟩, f, ⟨g1, g0, g2, g3⟩, r1, r0, r2, r3, r4⟩ := h
  exact ⟨dx, t1, t2, t3, dh, tb, pA, rw, fs, kvh, wm, zs, rv, k _ _ ox.1 ox.2 (fun _ z => nomatch z) e, ⟨a1, SqT.of (k.tup (of _ a0) a2)⟩, ⟨b1, SqT.of (k.tup (of _ b0) b2), nt⟩, ⟨c1, SqT.of (k.tup (of _ c0) c2)⟩, ⟨d1, pp⟩, ⟨e1, k.dk (of _ e0) e2, e3⟩, f, ⟨g1, SqT.of (k.tup (of _ g0) g2), g3⟩,
    r1, SqT.of (k.tup (of _ r0) r2), r3, fun i v hv => let ⟨p, p1, p2, p3⟩ := r4 i v hv; ⟨p, p1, k.fz (of _ p2) p3⟩⟩
end L2.K2
namespace L2.Pc
open PySem L2 L2.Bv
/-! ### rows: what lies under or above along a row -/
/-- a row -/
def rowI (ns : List Nt) (h : Str) : List Nat := idx (own ns h) ns.length
theorem row_mem {ns : List Nt} {h : Str} {k : Nat} : k ∈ rowI ns h ↔ k < ns.length ∧ handAt ns k = h := by
  unfold rowI
  rw [mem_idx, own_t]
theorem row_chain {ns : List Nt} {h : Str} : (rowI ns h).Pairwise fun a b => Und ns a b := by
  refine (idx_sorted (own ns h) ns.length).imp_of_mem fun {a b} ha hb lt => ?_
  exact own_chain h b a (Nat.le_of_lt lt) (own_t.mp (mem_idx.mp ha).2) (own_t.mp (mem_idx.mp hb).2)
/-- a filter that rises along a list is its end -/
theorem filter_up {α : Type} {q : α → Bool} : ∀ {l : List α}, l.Pairwise (fun a b => q a = true → q b = true) → l.filter q = l.drop (l.filter fun a => !q a).length
  | [], _ => rfl
  | a :: r, h => by
    obtain ⟨h1, h2⟩ := List.pairwise_cons.mp h
    cases c : q a with
    | false =>
      rw [List.filter_cons_of_neg (by rw [c]; exact Bool.noConfusion), List.filter_cons_of_pos (by rw [c]; rfl), List.length_cons, List.drop_succ_cons]
      exact filter_up h2
    | true =>
      have all : ∀ b ∈ r, q b = true := fun b hb => h1 b hb c
      have n : (a :: r).filter (fun b => !q b) = [] := by
        refine List.filter_eq_nil_iff.mpr fun b hb => ?_
        rcases List.mem_cons.mp hb with e | e
        · rw [e, c]
          exact Bool.noConfusion
        · rw [all b e]
          exact Bool.noConfusion
      rw [n, List.length_nil, List.drop_zero]
      refine List.filter_eq_self.mpr fun b hb => ?_
      rcases List.mem_cons.mp hb with e | e
      · rw [e]
        exact c
      · exact all b e
/-- one that falls is its beginning -/
theorem filter_dn {α : Type} {q : α → Bool} : ∀ {l : List α}, l.Pairwise (fun a b => q b = true → q a = true) → l.filter q = l.take (l.filter q).length
  | [], _ => rfl
  | a :: r, h => by
    obtain ⟨h1, h2⟩ := List.pairwise_cons.mp h
    cases c : q a with
    | true =>
      rw [List.filter_cons_of_pos c, List.length_cons, List.take_succ_cons]
      exact congrArg (a :: ·) (filter_dn h2)
    | false =>
      have n : (a :: r).filter q = [] := by
        refine List.filter_eq_nil_iff.mpr fun b hb => ?_
        rcases List.mem_cons.mp hb with e | e
        · rw [e, c]
          exact Bool.noConfusion
        · intro z
          rw [h1 b e z] at c
          cases c
      rw [n]
      rfl
/-- above a note along a row; under it -/
noncomputable def abv (ns : List Nt) (h : Str) (j : Nat) : List Nat := (rowI ns h).filter (und ns j)
noncomputable def blw (ns : List Nt) (h : Str) (j : Nat) : List Nat := (rowI ns h).filter fun k => und ns k j
theorem nlv_row (ns : List Nt) (h : Str) (j : Nat) : nlv ns h j = ((rowI ns h).filter fun k => !und ns j k).length := by
  unfold nlv rowI
  rw [idx_and]
theorem clk_row (ns : List Nt) (h : Str) (j : Nat) : clk ns h j = (blw ns h j).length := by
  unfold clk blw rowI
  rw [idx_and]
theorem abv_drop (ns : List Nt) (h : Str) (j : Nat) : abv ns h j = (rowI ns h).drop (nlv ns h j) := by
  rw [nlv_row]
  refine filter_up (row_chain.imp fun {a b} u z => ?_)
  exact und_t.mpr ((und_t.mp z).trans u)
theorem blw_take (ns : List Nt) (h : Str) (j : Nat) : blw ns h j = (rowI ns h).take (clk ns h j) := by
  rw [clk_row]
  refine filter_dn (row_chain.imp fun {a b} u z => ?_)
  exact und_t.mpr (u.trans (und_t.mp z))
theorem nlv_le_row (ns : List Nt) (h : Str) (j : Nat) : nlv ns h j ≤ (rowI ns h).length := by
  rw [nlv_row]
  exact List.length_filter_le _ _
theorem clk_le_row (ns : List Nt) (h : Str) (j : Nat) : clk ns h j ≤ (rowI ns h).length := by
  rw [clk_row]
  exact List.length_filter_le _ _
theorem abv_len (ns : List Nt) (h : Str) (j : Nat) : (abv ns h j).length + nlv ns h j = (rowI ns h).length := by
  have z := nlv_le_row ns h j
  rw [abv_drop, List.length_drop]
  omega
/-- the next note, the last note -/
noncomputable def nxt (ns : List Nt) (h : Str) (j : Nat) : Option Nat := (abv ns h j).head?
noncomputable def lst (ns : List Nt) (h : Str) (j : Nat) : Option Nat := (blw ns h j).getLast?
theorem nxt_get (ns : List Nt) (h : Str) (j : Nat) : nxt ns h j = (rowI ns h)[nlv ns h j]? := by
  unfold nxt
  rw [abv_drop, List.head?_drop]
theorem lst_get (ns : List Nt) (h : Str) (j : Nat) : lst ns h j = if clk ns h j = 0 then none else (rowI ns h)[clk ns h j - 1]? := by
  unfold lst
  have z := clk_le_row ns h j
  rw [blw_take, List.getLast?_eq_getElem?, List.length_take, Nat.min_eq_left z]
  by_cases c : clk ns h j = 0
  · rw [if_pos c, c]
    simp
  · rw [if_neg c, List.getElem?_take_of_lt (by omega)]
/-- the level of a note in its row -/
noncomputable def lvl (ns : List Nt) (j : Nat) : Nat := clk ns (handAt ns j) j - 1
section
variable {ns : List Nt} {h : Str} {i j k p : Nat}
theorem row_sorted : (rowI ns h).Pairwise (· < ·) := idx_sorted _ _
theorem row_inj {q : Nat} (h1 : (rowI ns h)[p]? = some k) (h2 : (rowI ns h)[q]? = some k) : p = q := by
  obtain ⟨lp, ep⟩ := List.getElem?_eq_some_iff.mp h1
  obtain ⟨lq, eq⟩ := List.getElem?_eq_some_iff.mp h2
  have s := List.pairwise_iff_getElem.mp (row_sorted (ns := ns) (h := h))
  rcases Nat.lt_trichotomy p q with c | c | c
  · have z := s p q lp lq c
    rw [ep, eq] at z
    exact absurd z (Nat.lt_irrefl _)
  · exact c
  · have z := s q p lq lp c
    rw [ep, eq] at z
    exact absurd z (Nat.lt_irrefl _)
/-- where a note stands among those that lie under another one -/
theorem pos_blw (hp : (rowI ns h)[p]? = some k) : p < clk ns h j ↔ Und ns k j := by
  have km := List.mem_of_getElem? hp
  have lp := (List.getElem?_eq_some_iff.mp hp).1
  constructor
  · intro c
    have m : k ∈ blw ns h j := by
      rw [blw_take]
      exact List.mem_of_getElem? (i := p) (by rw [List.getElem?_take_of_lt c]; exact hp)
    exact und_t.mp (List.mem_filter.mp m).2
  · intro u
    have m : k ∈ blw ns h j := List.mem_filter.mpr ⟨km, und_t.mpr u⟩
    rw [blw_take] at m
    obtain ⟨q, hq, e⟩ := List.getElem_of_mem m
    have lq : q < clk ns h j := by
      rw [List.length_take] at hq
      omega
    have e2 : (rowI ns h)[q]? = some k := by
      rw [← List.getElem?_take_of_lt lq, List.getElem?_eq_getElem hq, e]
    rw [row_inj hp e2]
    exact lq
theorem pos_abv (hp : (rowI ns h)[p]? = some k) : nlv ns h j ≤ p ↔ Und ns j k := by
  have km := List.mem_of_getElem? hp
  have lp := (List.getElem?_eq_some_iff.mp hp).1
  constructor
  · intro c
    have m : k ∈ abv ns h j := by
      rw [abv_drop]
      refine List.mem_of_getElem? (i := p - nlv ns h j) ?_
      rw [List.getElem?_drop]
      have e : nlv ns h j + (p - nlv ns h j) = p := by omega
      rw [e]
      exact hp
    exact und_t.mp (List.mem_filter.mp m).2
  · intro u
    have m : k ∈ abv ns h j := List.mem_filter.mpr ⟨km, und_t.mpr u⟩
    rw [abv_drop] at m
    obtain ⟨q, hq, e⟩ := List.getElem_of_mem m
    have e2 : (rowI ns h)[nlv ns h j + q]? = some k := by
      rw [← List.getElem?_drop, List.getElem?_eq_getElem hq, e]
    rw [row_inj hp e2]
    omega
/-- a note's place in its row -/
theorem lvl_pos (hp : (rowI ns h)[p]? = some k) : lvl ns k = p := by
  have hk := (row_mem.mp (List.mem_of_getElem? hp)).2
  have lp := (List.getElem?_eq_some_iff.mp hp).1
  have h1 : p < clk ns h k := (pos_blw hp).mpr (.self _)
  have h2 : ¬ p + 1 < clk ns h k := fun c => by
    have lq : p + 1 < (rowI ns h).length := Nat.lt_of_lt_of_le c (clk_le_row ns h k)
    have e := List.getElem?_eq_getElem lq
    have u := (pos_blw e).mp c
    have s := List.pairwise_iff_getElem.mp (row_sorted (ns := ns) (h := h)) p (p + 1) lp lq (by omega)
    have ek := (List.getElem?_eq_some_iff.mp hp).2
    rw [ek] at s
    exact absurd u.le (by omega)
  unfold lvl
  rw [hk]
  omega
theorem row_at (hk : k < ns.length) : (rowI ns (handAt ns k))[lvl ns k]? = some k := by
  obtain ⟨p, lp, e⟩ := List.getElem_of_mem (row_mem.mpr ⟨hk, rfl⟩ : k ∈ rowI ns (handAt ns k))
  have e2 : (rowI ns (handAt ns k))[p]? = some k := by rw [List.getElem?_eq_getElem lp, e]
  rw [lvl_pos e2]
  exact e2
theorem lvl_nxt (e : nxt ns h i = some k) : lvl ns k = nlv ns h i := by
  rw [nxt_get] at e
  exact lvl_pos e
theorem lvl_lst (e : lst ns h j = some k) : lvl ns k + 1 = clk ns h j := by
  rw [lst_get] at e
  by_cases c : clk ns h j = 0
  · rw [if_pos c] at e
    cases e
  · rw [if_neg c] at e
    rw [lvl_pos e]
    omega
/-- lying under by the next note, by the last one -/
theorem und_nxt (hj : j < ns.length) : Und ns i j ↔ ∃ a, nxt ns (handAt ns j) i = some a ∧ lvl ns a ≤ lvl ns j := by
  have pj := row_at hj
  have lj := (List.getElem?_eq_some_iff.mp pj).1
  constructor
  · intro u
    have c := (pos_abv pj).mpr u
    have e := List.getElem?_eq_getElem (show nlv ns (handAt ns j) i < (rowI ns (handAt ns j)).length by omega)
    rw [← nxt_get] at e
    exact ⟨_, e, by rw [lvl_nxt e]; exact c⟩
  · rintro ⟨a, e, c⟩
    rw [lvl_nxt e] at c
    exact (pos_abv pj).mp c
theorem und_lst (hi : i < ns.length) : Und ns i j ↔ ∃ b, lst ns (handAt ns i) j = some b ∧ lvl ns i ≤ lvl ns b := by
  have pi := row_at hi
  constructor
  · intro u
    have c := (pos_blw pi).mpr u
    have z := clk_le_row ns (handAt ns i) j
    have e := List.getElem?_eq_getElem (show clk ns (handAt ns i) j - 1 < (rowI ns (handAt ns i)).length by omega)
    have e2 : lst ns (handAt ns i) j = some ((rowI ns (handAt ns i))[clk ns (handAt ns i) j - 1]'(by omega)) := by
      rw [lst_get, if_neg (by omega)]
      exact e
    have q := lvl_lst e2
    exact ⟨_, e2, by omega⟩
  · rintro ⟨b, e, c⟩
    have q := lvl_lst e
    exact (pos_blw pi).mp (by omega)
end
end L2.Pc


namespace L2.Bv
open PySem PySem.Spec PyProof.Rows
/-- t.index(i), t of numbers: the first place -/
def rIndexN (K : PySem.W.Frag) : V → List V → Hp → VK → Prop := fun x xs H Q => ∃ (p : Addr) (ns : List Int) (k : Int), x = .ref p ∧ xs = [.int k] ∧ SqT K H p (ns.map V.int) ∧ k ∈ ns ∧ Q (.int (ns.idxOf k : Nat)) H
theorem mt_indexN {X : Cx} : MtR X "tuple.index" (rIndexN X.K) := by
  intro pins s σ H x xs v us Q I rx rs h
  obtain ⟨p, ns, k, rfl, rfl, hq, hk, q⟩ := h
  obtain rfl : v = Value.ref p := rx
  obtain ⟨u, rfl, ru⟩ := vals1 rs
  obtain ⟨tk, rfl⟩ := ru
  obtain ⟨its, r, pl, hz⟩ := I.tuple hq
  exact PySem.SeqAt.tuple_index_ints (show s.heap.IsTuple p its.toArray from pl) r.ints hk ⟨.int _, H, I.tok _, ⟨_, rfl⟩, q⟩
theorem idxOf_at {ns : List Nat} {j p : Nat} (h : ns[p]? = some j) (inj : ∀ q, q < p → ns[q]? ≠ some j) : (ns.map fun (n : Nat) => ((n : Nat) : Int)).idxOf ((j : Nat) : Int) = p := by
  induction ns generalizing p with
  | nil => cases h
  | cons a r ih =>
    cases p with
    | zero =>
      have e : a = j := Option.some.inj h
      rw [List.map_cons, e, List.idxOf_cons_self]
    | succ p =>
      have ne : a ≠ j := fun e => inj 0 (by omega) (by rw [e]; rfl)
      have ne2 : ((a : Nat) : Int) ≠ ((j : Nat) : Int) := fun e => ne (Int.ofNat.inj e)
      rw [List.map_cons, List.idxOf_cons, ih (p := p) h fun q lq z => inj (q + 1) (by omega) z]
      have nb : (((a : Nat) : Int) == ((j : Nat) : Int)) = false := beq_eq_false_iff_ne.mpr ne2
      rw [nb]
      rfl
end L2.Bv


namespace L2.K2
open PySem L2 L2.Bv L2.Pc L2.Ts PyProof.Rows Bov LamX
def FullAt (K : PySem.W.Frag) (C : Addr) (H : Hp) (x : Addr) (hs : List Str) (xs : List V) (ns : List Nt) (rs ps : List Str) : Prop := PactAt K C H x hs ns ∧ PactEx K C H x hs xs ns rs ps
theorem FullAt.same {K : PySem.W.Frag} {C x : Addr} {H H' : Hp} {hs : List Str} {xs : List V} {ns : List Nt} {rs ps : List Str} (h : FullAt K C H x hs xs ns rs ps) (s : Same H H') : FullAt K C H' x hs xs ns rs ps := ⟨h.1.same s, h.2.same s⟩
/-- no note of this name -/
def NoNt (ns : List Nt) (z : Str) : Prop := ∀ i, i < ns.length → nameAt ns i ≠ z
abbrev sHnd : Stmt := top 29
theorem scHn : FnScope ["pact", "hand"] ["pact", "hand"] (defScope sHnd) := ⟨rfl, rfl, rfl, by decide +kernel, rfl, by decide +kernel, by decide +kernel⟩
def spHnd (K : PySem.W.Frag) (C CN : Addr) : Sp := fun vs H Q E => ∃ (x : Addr) (hs : List Str) (xs : List V) (ns : List Nt) (rs ps : List Str) (z : Str), vs = [.ref x, .str z] ∧ FullAt K C H x hs xs ns rs ps ∧ ((∃ i, hs[i]? = some z ∧ Q (nV i) H) ∨ (z ∉ hs ∧ OddTold CN z H E))
def spNte (K : PySem.W.Frag) (C CN : Addr) : Sp := fun vs H Q E => ∃ (x : Addr) (hs : List Str) (xs : List V) (ns : List Nt) (rs ps : List Str) (z : Str), vs = [.ref x, .str z] ∧ FullAt K C H x hs xs ns rs ps ∧ ((∃ i, i < ns.length ∧ z = nameAt ns i ∧ Q (nV i) H) ∨ (NoNt ns z ∧ OddTold CN z H E))
section
variable {P : Program} {w : World} {K : PySem.W.Frag} {mg : Str → Option Value} {base : Heap} {C CN : Addr} {bm : List Value}
theorem ok_hnd {f : Addr} {fd : FuncData} (T : PcK K C) (M : ExM P w K mg base CN "name" bm "NoName") (F : Fun K "hand_number" "hand_number" sHnd f fd) : FnOk P w K mg base (L2.CX P w) 3 f fd ["pact", "hand"] (spHnd K C CN) := by
  refine F.okX scHn (fun vs H Q E h => ?_) (fun cdv A outer s H vs Q E hr h => ?_)
  · obtain ⟨x, hs, xs, ns, rs, ps, z, rfl, _⟩ := h
    rfl
  obtain ⟨x, hs, xs, ns, rs, ps, z, rfl, ⟨_, pe⟩, q⟩ := h
  have hu := hu_of hr
  obtain ⟨dx, t1, t2, t3, dh, tb, pA, rw2, fs, kvh, wm, zs, rv2, e, _, _, _, _, ⟨a1, a2, a3⟩, _⟩ := pe
  refine ⟨_, pss_cons (ps_if (pt_cmp (pc_dnotin hu (pv 1) (pe_fld (pv 0) rfl))) (pss_one (psRaise rfl (takes_of rfl rfl rfl rfl) rfl (peEx M hr (pv 1)))) pss_nil) (pss_one (ps_ret (pe_dget hu (pe_fld (pv 0) rfl) (pv 1) (fun _ _ => rfl)))), ?_⟩
  rcases q with ⟨i, hi, q⟩ | ⟨odd, q⟩
  · have li := (List.getElem?_eq_some_iff.mp hi).1
    have g := DGet.k (k := Sum.inr z) a2
    have v : valV kvh (.inr z) = some (nV i) := by
      have z2 : valV kvh (.inr (hs.getD i Str.empty)) = some (nV i) := a3.2.1 i li
      have ez : hs.getD i Str.empty = z := by rw [List.getD_eq_getElem?_getD, hi]; rfl
      rw [ez] at z2
      exact z2
    rw [v] at g
    exact ⟨_, rfl, _, rfl, x, C, dx, fs, _, rfl, e, T.cl, T.a7, a1, dh, _, rfl, g, _, rfl, iteF ⟨_, rfl, x, C, dx, fs, _, rfl, e, T.cl, T.a7, a1, _, rfl, dh, nV i, rfl, g, q⟩⟩
  · have no : valV kvh (.inr z) = none := by
      cases e0 : valV kvh (.inr z) with
      | none => rfl
      | some v =>
        obtain ⟨j, lj, ej⟩ := a3.2.2 (.inr z) (by rw [e0]; rfl)
        refine absurd ?_ odd
        have ej : hs.getD j Str.empty = z := Sum.inr.inj ej
        rw [← ej, List.getD_eq_getElem?_getD, List.getElem?_eq_getElem lj]
        exact List.getElem_mem lj
    have g := DGet.k (k := Sum.inr z) a2
    rw [no] at g
    refine ⟨_, rfl, _, rfl, x, C, dx, fs, _, rfl, e, T.cl, T.a7, a1, dh, _, rfl, g, _, rfl, iteT ⟨_, rfl, fun a d na nd ne => ⟨a, CN, bm, some d, rfl, M.ec, upd_same, na, q d _ (fun b o eb => ?_) ?_⟩⟩⟩
    · rw [delH_ne (ne_of_none eb na), upd_ne (ne_of_none eb na), upd_ne (ne_of_none eb nd)]
      exact eb
    · rw [delH_ne ne, upd_ne ne, upd_same]
theorem ok_nte {f : Addr} {fd : FuncData} (T : PcK K C) (M : ExM P w K mg base CN "name" bm "NoName") (F : Fun K "note_number" "note_number" sNum f fd) : FnOk P w K mg base (L2.CX P w) 3 f fd ["pact", "note"] (spNte K C CN) := by
  refine F.okX scNum (fun vs H Q E h => ?_) (fun cdv A outer s H vs Q E hr h => ?_)
  · obtain ⟨x, hs, xs, ns, rs, ps, z, rfl, _⟩ := h
    rfl
  obtain ⟨x, hs, xs, ns, rs, ps, z, rfl, ⟨pa, _⟩, q⟩ := h
  have hu := hu_of hr
  obtain ⟨dx, nn, rw, un, nx, nm, fs, kvs, rv, xv, ms, e, ⟨a1, a2, a3⟩, _⟩ := pa
  refine ⟨_, pss_cons (ps_if (pt_cmp (pc_dnotin hu (pv 1) (pe_fld (pv 0) rfl))) (pss_one (psRaise rfl (takes_of rfl rfl rfl rfl) rfl (peEx M hr (pv 1)))) pss_nil) (pss_one (ps_ret (pe_dget hu (pe_fld (pv 0) rfl) (pv 1) (fun _ _ => rfl)))), ?_⟩
  rcases q with ⟨i, li, rfl, q⟩ | ⟨odd, q⟩
  · have g := DGet.k (k := Sum.inr (nameAt ns i)) a2
    rw [a3.2.1 i li] at g
    exact ⟨_, rfl, _, rfl, x, C, dx, fs, _, rfl, e, T.cl, T.a6, a1, nn, _, rfl, g, _, rfl, iteF ⟨_, rfl, x, C, dx, fs, _, rfl, e, T.cl, T.a6, a1, _, rfl, nn, nV i, rfl, g, q⟩⟩
  · have no : valV kvs (.inr z) = none := by
      cases e0 : valV kvs (.inr z) with
      | none => rfl
      | some v =>
        obtain ⟨j, lj, ej⟩ := a3.2.2 (.inr z) (by rw [e0]; rfl)
        exact absurd (Sum.inr.inj ej) (odd j lj)
    have g := DGet.k (k := Sum.inr z) a2
    rw [no] at g
    refine ⟨_, rfl, _, rfl, x, C, dx, fs, _, rfl, e, T.cl, T.a6, a1, nn, _, rfl, g, _, rfl, iteT ⟨_, rfl, fun a d na nd ne => ⟨a, CN, bm, some d, rfl, M.ec, upd_same, na, q d _ (fun b o eb => ?_) ?_⟩⟩⟩
    · rw [delH_ne (ne_of_none eb na), upd_ne (ne_of_none eb na), upd_ne (ne_of_none eb nd)]
      exact eb
    · rw [delH_ne ne, upd_ne ne, upd_same]
/-- a row by its hand's number -/
theorem rowFz {rv : List V} {ns : List Nt} {hs : List Str} {H : Hp} {i : Nat} {h : Str} (tb : TabFz H rv (rowsOf ns hs)) (hi : hs[i]? = some h) : ∃ p, rv[i]? = some (.ref p) ∧ FzT H p ((rowI ns h).map nV) := by
  have li := (List.getElem?_eq_some_iff.mp hi).1
  have lr : rv.length = hs.length := by
    rw [tb.1]
    exact List.length_map _
  have e := List.getElem?_eq_getElem (show i < rv.length by omega)
  obtain ⟨p, ep, hp⟩ := tb.2 i _ e
  refine ⟨p, by rw [e, ep], ?_⟩
  have z : (rowsOf ns hs).getD i [] = rowI ns h := by
    unfold rowsOf rowI
    rw [List.getD_eq_getElem?_getD, List.getElem?_map, hi]
    rfl
  rw [z] at hp
  exact hp
end
end L2.K2


namespace L2.Da
open PySem L2 L2.Bv L2.Ts
/-! ### data that stay whatever happens at some places -/
mutual
/-- v is x, and stays so whatever happens at S -/
inductive Dq (K : PySem.W.Frag) (S : Addr → Prop) (H : Hp) : V → PyData → Prop
  | non : Dq K S H .non .none
  | bl (b : Bool) : Dq K S H (.bl b) (.bool b)
  | int (i : Int) : Dq K S H (.int i) (.int i)
  | str (x : Str) : Dq K S H (.str x) (.str x)
  | lst {a : Addr} {xs : List V} {ds : List PyData} : St' S H (fun H' => Rd H' a (.lst xs)) → DqAll K S H xs ds → Dq K S H (.ref a) (.list ds)
  | tup {a : Addr} {xs : List V} {ds : List PyData} : St' S H (fun H' => SqT K H' a xs) → DqAll K S H xs ds → Dq K S H (.ref a) (.tuple ds)
inductive DqAll (K : PySem.W.Frag) (S : Addr → Prop) (H : Hp) : List V → List PyData → Prop
  | nil : DqAll K S H [] []
  | cons {v : V} {vs : List V} {d : PyData} {ds : List PyData} : Dq K S H v d → DqAll K S H vs ds → DqAll K S H (v :: vs) (d :: ds)
end
section
variable {K : PySem.W.Frag} {S S' : Addr → Prop} {H H' : Hp}
/-- moved: what stood at H under S stands at H' under S' -/
def Mv (S : Addr → Prop) (H : Hp) (S' : Addr → Prop) (H' : Hp) : Prop := ∀ H2, KS S' H' H2 → KS S H H2
theorem stMv {P : Hp → Prop} (h : St' S H P) (m : Mv S H S' H') : St' S' H' P := fun H2 k => h H2 (m H2 k)
mutual
theorem Dq.mv (m : Mv S H S' H') : ∀ {v : V} (d : PyData), Dq K S H v d → Dq K S' H' v d
  | _, .none, h => by cases h; exact .non
  | _, .bool b, h => by cases h; exact .bl b
  | _, .int i, h => by cases h; exact .int i
  | _, .str x, h => by cases h; exact .str x
  | _, .list ds, h => by
    cases h with
    | lst h1 h2 => exact .lst (stMv h1 m) (DqAll.mv m ds h2)
  | _, .tuple ds, h => by
    cases h with
    | tup h1 h2 => exact .tup (stMv h1 m) (DqAll.mv m ds h2)
  | _, .dict kvs, h => by cases h
theorem DqAll.mv (m : Mv S H S' H') : ∀ {vs : List V} (ds : List PyData), DqAll K S H vs ds → DqAll K S' H' vs ds
  | _, [], h => by cases h; exact .nil
  | _, d :: r, h => by
    cases h with
    | cons h1 h2 => exact .cons (Dq.mv m d h1) (DqAll.mv m r h2)
end
mutual
theorem Dq.dp : ∀ {v : V} (d : PyData), Dq K S H v d → Dp K H v d
  | _, .none, h => by cases h; exact .non
  | _, .bool b, h => by cases h; exact .bl b
  | _, .int i, h => by cases h; exact .int i
  | _, .str x, h => by cases h; exact .str x
  | _, .list ds, h => by
    cases h with
    | lst h1 h2 => exact .lst (.inl h1.now) (DqAll.dp ds h2)
  | _, .tuple ds, h => by
    cases h with
    | tup h1 h2 => exact .tup h1.now (DqAll.dp ds h2)
  | _, .dict kvs, h => by cases h
theorem DqAll.dp : ∀ {vs : List V} (ds : List PyData), DqAll K S H vs ds → DpAll K H vs ds
  | _, [], h => by cases h; exact .nil
  | _, d :: r, h => by
    cases h with
    | cons h1 h2 => exact .cons (Dq.dp d h1) (DqAll.dp r h2)
end
theorem Mv.go (k : KS S H H') : Mv S H S H' := fun _ k2 => k.trans k2
theorem Mv.sub (h : ∀ x, S' x → S x) : Mv S H S' H := fun _ k => k.sub h
theorem Mv.trans {S2 : Addr → Prop} {H2 : Hp} (a : Mv S H S' H') (b : Mv S' H' S2 H2) : Mv S H S2 H2 := fun H3 k => a H3 (b H3 k)
theorem Mv.grow {p : Addr} {o : HO} (f : H p = none) : Mv S H (ins S p) (upd H p o) := fun H2 k x u n e => by
  have ne := ne_of_none e f
  refine k x u (fun z => z.elim n ne) ?_
  rw [upd_ne ne]
  exact e
/-- S' has besides S only what was free at H -/
theorem Mv.ext {H3 : Hp} (h : ∀ y, S' y → S y ∨ H y = none) (k : KS S' H H3) : Mv S H S' H3 := fun H4 k4 x u n e => by
  have n' : ¬ S' x := fun z => (h x z).elim n fun q => by rw [q] at e; cases e
  exact k4 x u n' (k x u n' e)
theorem Dq.go {v : V} {d : PyData} (h : Dq K S H v d) (k : KS S H H') : Dq K S H' v d := Dq.mv (.go k) d h
theorem DqAll.go {vs : List V} {ds : List PyData} (h : DqAll K S H vs ds) (k : KS S H H') : DqAll K S H' vs ds := DqAll.mv (.go k) ds h
theorem Dq.sub {v : V} {d : PyData} (h : Dq K S H v d) (k : ∀ x, S' x → S x) : Dq K S' H v d := Dq.mv (.sub k) d h
theorem DqAll.sub {vs : List V} {ds : List PyData} (h : DqAll K S H vs ds) (k : ∀ x, S' x → S x) : DqAll K S' H vs ds := DqAll.mv (.sub k) ds h
theorem DqAll.length : ∀ {vs : List V} {ds : List PyData}, DqAll K S H vs ds → vs.length = ds.length
  | _, _, .nil => rfl
  | _, _, .cons _ h => congrArg (· + 1) h.length
theorem DqAll.get : ∀ {vs : List V} {ds : List PyData} {i : Nat} {v : V}, DqAll K S H vs ds → vs[i]? = some v → ∃ d, ds[i]? = some d ∧ Dq K S H v d
  | _, _, _, _, .nil, e => by cases e
  | _, _, 0, _, .cons h _, e => by cases e; exact ⟨_, rfl, h⟩
  | _, _, i + 1, _, .cons _ h, e => h.get (i := i) e
theorem DqAll.get' : ∀ {vs : List V} {ds : List PyData} {i : Nat} {d : PyData}, DqAll K S H vs ds → ds[i]? = some d → ∃ v, vs[i]? = some v ∧ Dq K S H v d
  | _, _, _, _, .nil, e => by cases e
  | _, _, 0, _, .cons h _, e => by cases e; exact ⟨_, rfl, h⟩
  | _, _, i + 1, _, .cons _ h, e => h.get' (i := i) e
theorem DqAll.append : ∀ {vs ws : List V} {ds es : List PyData}, DqAll K S H vs ds → DqAll K S H ws es → DqAll K S H (vs ++ ws) (ds ++ es)
  | _, _, _, _, .nil, k => k
  | _, _, _, _, .cons a b, k => .cons a (b.append k)
theorem DqAll.take : ∀ {vs : List V} {ds : List PyData} (n : Nat), DqAll K S H vs ds → DqAll K S H (vs.take n) (ds.take n)
  | _, _, 0, _ => .nil
  | _, _, _ + 1, .nil => .nil
  | _, _, n + 1, .cons a b => .cons a (b.take n)
theorem DqAll.drop : ∀ {vs : List V} {ds : List PyData} (n : Nat), DqAll K S H vs ds → DqAll K S H (vs.drop n) (ds.drop n)
  | _, _, 0, h => h
  | _, _, _ + 1, .nil => .nil
  | _, _, n + 1, .cons _ b => b.drop n
theorem DqAll.reverse : ∀ {vs : List V} {ds : List PyData}, DqAll K S H vs ds → DqAll K S H vs.reverse ds.reverse
  | _, _, .nil => .nil
  | _, _, .cons a b => by
    rw [List.reverse_cons, List.reverse_cons]
    exact b.reverse.append (.cons a .nil)
theorem dqStrs : ∀ xs : List Str, DqAll K S H (xs.map V.str) (xs.map PyData.str)
  | [] => .nil
  | x :: r => .cons (.str x) (dqStrs r)
theorem dqInts : ∀ xs : List Int, DqAll K S H (xs.map V.int) (xs.map PyData.int)
  | [] => .nil
  | x :: r => .cons (.int x) (dqInts r)
theorem dqBls : ∀ xs : List Bool, DqAll K S H (xs.map V.bl) (xs.map PyData.bool)
  | [] => .nil
  | x :: r => .cons (.bl x) (dqBls r)
theorem dqStrs_inv : ∀ {vs : List V} (xs : List Str), DqAll K S H vs (xs.map PyData.str) → vs = xs.map V.str
  | _, [], .nil => rfl
  | _, x :: r, .cons a b => by
    cases a
    rw [dqStrs_inv r b]
    rfl
theorem dqInts_inv : ∀ {vs : List V} (xs : List Int), DqAll K S H vs (xs.map PyData.int) → vs = xs.map V.int
  | _, [], .nil => rfl
  | _, x :: r, .cons a b => by
    cases a
    rw [dqInts_inv r b]
    rfl
theorem dqBls_inv : ∀ {vs : List V} (xs : List Bool), DqAll K S H vs (xs.map PyData.bool) → vs = xs.map V.bl
  | _, [], .nil => rfl
  | _, x :: r, .cons a b => by
    cases a
    rw [dqBls_inv r b]
    rfl
end
/-- a scalar, as data and as a value -/
inductive Sc : PyData → V → Prop
  | non : Sc .none .non
  | bl (b : Bool) : Sc (.bool b) (.bl b)
  | int (i : Int) : Sc (.int i) (.int i)
  | str (x : Str) : Sc (.str x) (.str x)
theorem Sc.eq {K : PySem.W.Frag} {S : Addr → Prop} {H : Hp} {x : PyData} {v u : V} (s : Sc x u) (h : Dq K S H v x) : v = u := by
  cases s <;> cases h <;> rfl
theorem Sc.dq {K : PySem.W.Frag} {S : Addr → Prop} {H : Hp} {x : PyData} {u : V} (s : Sc x u) : Dq K S H u x := by
  cases s with
  | non => exact .non
  | bl b => exact .bl b
  | int i => exact .int i
  | str z => exact .str z
/-! ### what is known of a def's names while it runs -/
/-- a name's thing: data; a list of its own at D; any other thing that stays -/
inductive OwC where
  | l (xs : List PyData)
  | m (kxs : List (Str × PyData))
inductive Ent where
  | d (x : PyData)
  | o (D : Addr) (w : OwC)
  | p (P : Hp → V → Prop)
/-- a dict's pairs -/
inductive KvAll (K : PySem.W.Frag) (S : Addr → Prop) (H : Hp) : List (Key × V) → List (Str × PyData) → Prop
  | nil : KvAll K S H [] []
  | cons {k : Str} {v : V} {x : PyData} {kvs : List (Key × V)} {m : List (Str × PyData)} : Dq K S H v x → KvAll K S H kvs m → KvAll K S H ((.inr k, v) :: kvs) ((k, x) :: m)
theorem KvAll.mv {K : PySem.W.Frag} {S S' : Addr → Prop} {H H' : Hp} (mv : Mv S H S' H') : ∀ {kvs : List (Key × V)} {m : List (Str × PyData)}, KvAll K S H kvs m → KvAll K S' H' kvs m
  | _, _, .nil => .nil
  | _, _, .cons a b => .cons (Dq.mv mv _ a) (KvAll.mv mv b)
theorem KvAll.length {K : PySem.W.Frag} {S : Addr → Prop} {H : Hp} : ∀ {kvs : List (Key × V)} {m : List (Str × PyData)}, KvAll K S H kvs m → kvs.length = m.length
  | _, _, .nil => rfl
  | _, _, .cons _ h => congrArg (· + 1) h.length
/-- things that a def may change in place -/
def Soft : HO → Prop
  | .lst _ => True
  | .dK _ => True
  | _ => False
abbrev Own := List Addr
/-- what an own thing at D holds -/
def OwnAt (K : PySem.W.Frag) (S : Addr → Prop) (H : Hp) (D : Addr) : OwC → Prop
  | .l xs => ∃ vs, H D = some (.lst vs) ∧ DqAll K S H vs xs
  | .m m => ∃ kvs, H D = some (.dK kvs) ∧ KvAll K S H kvs m
theorem OwnAt.get {K : PySem.W.Frag} {S : Addr → Prop} {H : Hp} {D : Addr} : ∀ {w : OwC}, OwnAt K S H D w → ∃ o, H D = some o ∧ Soft o
  | .l _, ⟨_, e, _⟩ => ⟨_, e, True.intro⟩
  | .m _, ⟨_, e, _⟩ => ⟨_, e, True.intro⟩
theorem OwnAt.mv {K : PySem.W.Frag} {S S' : Addr → Prop} {H H' : Hp} {D : Addr} (e : ∀ o, H D = some o → H' D = some o) (m : Mv S H S' H') : ∀ {w : OwC}, OwnAt K S H D w → OwnAt K S' H' D w
  | .l xs, ⟨vs, a, b⟩ => ⟨vs, e _ a, DqAll.mv m xs b⟩
  | .m _, ⟨kvs, a, b⟩ => ⟨kvs, e _ a, b.mv m⟩
/-- a def's call: S what its caller may change, M what it changes itself, J what is kept of that; H0 the heap at first; B, OB the heap and the own lists where the newest loop began -/
structure Cf where
  K : PySem.W.Frag
  S : Addr → Prop
  M : Addr → Prop
  J : Hp → Prop
  H0 : Hp
  B : Hp
  OB : Own
  sub : ∀ x, M x → S x
  al0 : Al S H0
  alM : ∀ H, J H → Al M H
  js : ∀ H H', J H → (∀ x o, H x = some o → S x ∨ ¬ Soft o → H' x = some o) → J H'
/-- what may change: the caller's, and the def's own lists -/
def DS (c : Cf) (O : Own) : Addr → Prop := fun x => c.S x ∨ x ∈ O
def Se (c : Cf) (O : Own) (H : Hp) : Ent → V → Prop
  | .d x, v => Dq c.K (DS c O) H v x
  | .o D w, v => D ∈ O ∧ v = .ref D ∧ OwnAt c.K (DS c O) H D w
  | .p P, v => St' (DS c O) H fun H' => P H' v
abbrev Gm := List (Option Ent)
structure Good (c : Cf) (O : Own) (H : Hp) (σ : St) (Γ : Gm) : Prop where
  len : σ.length = Γ.length
  at_ : ∀ (i : Nat) (e : Ent), Γ[i]? = some (some e) → ∃ v, σ[i]? = some (some v) ∧ Se c O H e v
  ks : KS c.M c.H0 H
  j : c.J H
  fr : ∀ x, x ∈ O → c.H0 x = none ∧ H x ≠ none
  inj : ∀ (i j : Nat) (D : Addr) (xs ys : OwC), Γ[i]? = some (some (.o D xs)) → Γ[j]? = some (some (.o D ys)) → i = j
  bs : KS (DS c O) c.B H
  ob : ∀ x ∈ O, x ∈ c.OB ∨ c.B x = none
  oo : ∀ x ∈ c.OB, x ∈ O
section
variable {c : Cf} {O : Own} {H H' : Hp} {σ : St} {Γ : Gm} {e : Ent} {v : V} {D : Addr} {i k : Nat} {xs ws : OwC}
theorem Good.off (G : Good c O H σ Γ) (h : D ∈ O) : ¬ c.S D := fun z => c.al0 D z (G.fr D h).1
theorem Good.al (G : Good c O H σ Γ) : Al (DS c O) H := by
  rintro x (h | h) e
  · by_cases m : c.M x
    · exact c.alM H G.j x m e
    · cases e0 : c.H0 x with
      | none => exact c.al0 x h e0
      | some o =>
        rw [G.ks x o m e0] at e
        cases e
  · exact (G.fr x h).2 e
theorem dsM {x : Addr} (h : c.M x) : DS c O x := .inl (c.sub x h)
theorem Se.go (G : Good c O H σ Γ) (k : KS c.M H H') (h : Se c O H e v) : Se c O H' e v := by
  have kd : KS (DS c O) H H' := k.sub fun _ => dsM
  cases e with
  | d x => exact Dq.go h kd
  | o D xs =>
    obtain ⟨a, b, e⟩ := h
    exact ⟨a, b, e.mv (fun o q => k D o (fun z => G.off a (c.sub D z)) q) (.go kd)⟩
  | p P => exact St'.go h kd
theorem Good.go (G : Good c O H σ Γ) (k : KS c.M H H') (j : c.J H') : Good c O H' σ Γ := by
  refine ⟨G.len, fun i e h => ?_, G.ks.trans k, j, fun x h => ⟨(G.fr x h).1, fun z => ?_⟩, G.inj, G.bs.trans (k.sub fun _ => dsM), G.ob, G.oo⟩
  · obtain ⟨v, a, b⟩ := G.at_ i e h
    exact ⟨v, a, Se.go G k b⟩
  · cases e : H x with
    | none => exact (G.fr x h).2 e
    | some o =>
      rw [k x o (fun m => G.off h (c.sub x m)) e] at z
      cases z
theorem Good.js' (G : Good c O H σ Γ) (s : Same H H') : c.J H' := c.js H H' G.j fun x o e _ => s x o e
theorem Good.same (G : Good c O H σ Γ) (s : Same H H') : Good c O H' σ Γ := G.go (KS.of s) (G.js' s)
/-- data, or another thing that is no own list -/
def Ent.fix : Ent → Prop
  | .o _ _ => False
  | _ => True
theorem setGet {α : Type} {l : List (Option α)} {i j : Nat} {x : Option α} {y : α} (h : (l.set i x)[j]? = some (some y)) : (i = j ∧ x = some y ∧ i < l.length) ∨ (i ≠ j ∧ l[j]? = some (some y)) := by
  by_cases q : i = j
  · subst q
    rw [List.getElem?_set, if_pos rfl] at h
    split at h
    · rename_i lt
      exact .inl ⟨rfl, Option.some.inj h, lt⟩
    · cases h
  · rw [List.getElem?_set_ne q] at h
    exact .inr ⟨q, h⟩
theorem Good.set (G : Good c O H σ Γ) (f : e.fix) (h : Se c O H e v) : Good c O H (σ.set i (some v)) (Γ.set i (some e)) := by
  refine ⟨by rw [List.length_set, List.length_set, G.len], fun j e' hj => ?_, G.ks, G.j, G.fr, fun a b D xs ys ha hb => ?_, G.bs, G.ob, G.oo⟩
  · rcases setGet hj with ⟨rfl, q, lt⟩ | ⟨q, hj⟩
    · cases q
      exact ⟨v, by rw [List.getElem?_set_self (by rw [G.len]; exact lt)], h⟩
    · rw [List.getElem?_set_ne q]
      exact G.at_ j e' hj
  · rcases setGet ha with ⟨_, q, _⟩ | ⟨_, ha⟩
    · cases q
      exact f.elim
    · rcases setGet hb with ⟨_, q, _⟩ | ⟨_, hb⟩
      · cases q
        exact f.elim
      · exact G.inj a b D xs ys ha hb
theorem Good.unset (G : Good c O H σ Γ) (x : Option V) : Good c O H (σ.set i x) (Γ.set i none) := by
  refine ⟨by rw [List.length_set, List.length_set, G.len], fun j e' hj => ?_, G.ks, G.j, G.fr, fun a b D xs ys ha hb => ?_, G.bs, G.ob, G.oo⟩
  · rcases setGet hj with ⟨_, q, _⟩ | ⟨q, hj⟩
    · cases q
    · rw [List.getElem?_set_ne q]
      exact G.at_ j e' hj
  · rcases setGet ha with ⟨_, q, _⟩ | ⟨_, ha⟩
    · cases q
    · rcases setGet hb with ⟨_, q, _⟩ | ⟨_, hb⟩
      · cases q
      · exact G.inj a b D xs ys ha hb
def wipeG (Γ : Gm) : List Nat → Gm
  | [] => Γ
  | v :: vs => (wipeG Γ vs).set v none
theorem Good.wipe (G : Good c O H σ Γ) : ∀ vs : List Nat, Good c O H (L2.wipe σ vs) (wipeG Γ vs)
  | [] => G
  | v :: vs => (G.wipe vs).unset none
/-- entries forgotten -/
def Below (Γ' Γ : Gm) : Prop := Γ'.length = Γ.length ∧ ∀ (i : Nat) (e : Ent), Γ'[i]? = some (some e) → Γ[i]? = some (some e)
theorem Good.weak {Γ' : Gm} (G : Good c O H σ Γ) (b : Below Γ' Γ) : Good c O H σ Γ' := ⟨G.len.trans b.1.symm, fun i e h => G.at_ i e (b.2 i e h), G.ks, G.j, G.fr, fun i j D xs ys h1 h2 => G.inj i j D xs ys (b.2 _ _ h1) (b.2 _ _ h2), G.bs, G.ob, G.oo⟩
theorem below_none {i : Nat} (h : i < Γ.length) : Below (Γ.set i none) Γ := by
  refine ⟨List.length_set .., fun j e hj => ?_⟩
  rcases setGet hj with ⟨_, q, _⟩ | ⟨_, hj⟩
  · cases q
  · exact hj
theorem dsApp {x : Addr} : DS c (O ++ [D]) x ↔ ins (DS c O) D x := by
  unfold DS ins
  rw [List.mem_append, List.mem_singleton, or_assoc]
theorem Good.off0 (G : Good c O H σ Γ) (h : H D = none) : c.H0 D = none ∧ c.B D = none ∧ D ∉ O ∧ D ∉ c.OB := by
  have nO : D ∉ O := fun z => (G.fr D z).2 h
  refine ⟨?_, ?_, nO, fun z => nO (G.oo D z)⟩
  · cases e : c.H0 D with
    | none => rfl
    | some o =>
      by_cases z : c.M D
      · exact absurd h (c.alM H G.j D z)
      · rw [G.ks D o z e] at h
        cases h
  · cases e : c.B D with
    | none => rfl
    | some o =>
      rw [G.bs D o (G.al.off h) e] at h
      cases h
/-- a thing of its own comes -/
theorem Good.alloc (G : Good c O H σ Γ) (h : H D = none) (u : HO) : Good c (O ++ [D]) (upd H D u) σ Γ := by
  have s : Same H (upd H D u) := fun x o e => by
    rw [upd_ne (ne_of_none e h)]
    exact e
  have m : Mv (DS c O) H (DS c (O ++ [D])) (upd H D u) := fun H2 k => Mv.grow h H2 (k.sub fun x z => dsApp.mp z)
  obtain ⟨d0, dB, nO, nOB⟩ := G.off0 h
  refine ⟨G.len, fun i e hi => ?_, G.ks.onto d0, G.js' s, fun x hx => ?_, G.inj, ?_, fun x hx => ?_, fun x hx => List.mem_append_left _ (G.oo x hx)⟩
  · obtain ⟨v, a, b⟩ := G.at_ i e hi
    refine ⟨v, a, ?_⟩
    cases e with
    | d x => exact Dq.mv m x b
    | o D' xs =>
      obtain ⟨a1, a2, a3⟩ := b
      exact ⟨List.mem_append_left _ a1, a2, a3.mv (fun o q => s _ _ q) m⟩
    | p P => exact stMv b m
  · rcases List.mem_append.mp hx with z | z
    · refine ⟨(G.fr x z).1, fun q => ?_⟩
      cases e : H x with
      | none => exact (G.fr x z).2 e
      | some o =>
        rw [s x o e] at q
        cases q
    · rw [List.mem_singleton.mp z, upd_same]
      exact ⟨d0, fun q => nomatch q⟩
  · exact (G.bs.sub fun x z => dsApp.mpr (.inl z)).trans (KS.of s)
  · rcases List.mem_append.mp hx with z | z
    · exact G.ob x z
    · exact .inr (by rw [List.mem_singleton.mp z]; exact dB)
/-- a new name for a new own thing -/
theorem Good.setO (G : Good c O H σ Γ) (hD : D ∈ O) (d : OwnAt c.K (DS c O) H D xs) (n : ∀ (j : Nat) (ys : OwC), j ≠ i → Γ[j]? ≠ some (some (.o D ys))) : Good c O H (σ.set i (some (.ref D))) (Γ.set i (some (.o D xs))) := by
  refine ⟨by rw [List.length_set, List.length_set, G.len], fun j e' hj => ?_, G.ks, G.j, G.fr, fun a b D' xs ys ha hb => ?_, G.bs, G.ob, G.oo⟩
  · rcases setGet hj with ⟨rfl, q, lt⟩ | ⟨q, hj⟩
    · cases q
      exact ⟨_, by rw [List.getElem?_set_self (by rw [G.len]; exact lt)], hD, rfl, d⟩
    · rw [List.getElem?_set_ne q]
      exact G.at_ j e' hj
  · rcases setGet ha with ⟨rfl, q, _⟩ | ⟨na, ha⟩
    · cases q
      rcases setGet hb with ⟨rfl, q, _⟩ | ⟨nb, hb⟩
      · rfl
      · exact absurd hb (n b ys fun z => nb z.symm)
    · rcases setGet hb with ⟨rfl, q, _⟩ | ⟨nb, hb⟩
      · cases q
        exact absurd ha (n a xs fun z => na z.symm)
      · exact G.inj a b D' xs ys ha hb
theorem Good.noNew (G : Good c O H σ Γ) (h : H D = none) (j : Nat) (ys : OwC) : Γ[j]? ≠ some (some (.o D ys)) := fun e => by
  obtain ⟨v, _, a, _⟩ := G.at_ j _ e
  exact (G.fr D a).2 h
theorem Good.putAll {u o0 : HO} {Γ' : Gm} (G : Good c O H σ Γ) (hD : D ∈ O) (e0 : H D = some o0) (so : Soft o0) (len : Γ'.length = Γ.length) (at' : ∀ (j : Nat) (e : Ent), Γ'[j]? = some (some e) → (∃ v, σ[j]? = some (some v) ∧ Se c O (upd H D u) e v) ∨ (Γ[j]? = some (some e) ∧ ∀ ys, e ≠ .o D ys))
    (inj : ∀ (i j : Nat) (D : Addr) (xs ys : OwC), Γ'[i]? = some (some (.o D xs)) → Γ'[j]? = some (some (.o D ys)) → i = j) : Good c O (upd H D u) σ Γ' := by
  have nS := G.off hD
  have kd : KS (DS c O) H (upd H D u) := KS.atS (.inr hD)
  refine ⟨G.len.trans len.symm, fun j e hj => ?_, G.ks.onto (G.fr D hD).1, c.js H _ G.j fun x o e h => ?_, fun x hx => ⟨(G.fr x hx).1, fun z => ?_⟩, inj, G.bs.trans kd, G.ob, G.oo⟩
  · rcases at' j e hj with h | ⟨hj2, ne⟩
    · exact h
    · obtain ⟨v, a, b⟩ := G.at_ j e hj2
      refine ⟨v, a, ?_⟩
      cases e with
      | d x => exact Dq.go b kd
      | o D' zs =>
        obtain ⟨b1, b2, b3⟩ := b
        have ne : D' ≠ D := fun z => ne zs (by rw [z])
        exact ⟨b1, b2, b3.mv (fun o q => by rw [upd_ne ne]; exact q) (.go kd)⟩
      | p P => exact St'.go b kd
  · have ne : x ≠ D := fun z => by
      subst z
      rcases h with h | h
      · exact nS h
      · rw [e0] at e
        cases e
        exact h so
    rw [upd_ne ne]
    exact e
  · by_cases q : x = D
    · rw [q, upd_same] at z
      cases z
    · rw [upd_ne q] at z
      exact (G.fr x hx).2 z
/-- the own thing of the name i changes -/
theorem Good.put {u : HO} {ys : OwC} (G : Good c O H σ Γ) (hi : Γ[i]? = some (some (.o D xs))) (d : ∀ kd : KS (DS c O) H (upd H D u), OwnAt c.K (DS c O) (upd H D u) D ys) : Good c O (upd H D u) σ (Γ.set i (some (.o D ys))) := by
  obtain ⟨v, hv, hD, rfl, d0⟩ := G.at_ i _ hi
  obtain ⟨o0, e0, so⟩ := d0.get
  refine G.putAll hD e0 so (List.length_set ..) (fun j e hj => ?_) fun a b D' xs' ys' ha hb => ?_
  · rcases setGet hj with ⟨rfl, q, _⟩ | ⟨q, hj2⟩
    · cases q
      exact .inl ⟨_, hv, hD, rfl, d (KS.atS (.inr hD))⟩
    · refine .inr ⟨hj2, fun zs z => ?_⟩
      subst z
      exact q (G.inj i j _ _ _ hi hj2)
  · rcases setGet ha with ⟨rfl, q, _⟩ | ⟨na, ha⟩
    · cases q
      rcases setGet hb with ⟨rfl, q, _⟩ | ⟨nb, hb⟩
      · rfl
      · exact absurd (G.inj i b _ _ _ hi hb) nb
    · rcases setGet hb with ⟨rfl, q, _⟩ | ⟨nb, hb⟩
      · cases q
        exact absurd (G.inj i a _ _ _ hi ha) na
      · exact G.inj a b D' xs' ys' ha hb
/-- an own thing at D that no name holds changes -/
theorem Good.putD {u o0 : HO} (G : Good c O H σ Γ) (hD : D ∈ O) (e0 : H D = some o0) (so : Soft o0) (n : ∀ (j : Nat) (ys : OwC), Γ[j]? ≠ some (some (.o D ys))) : Good c O (upd H D u) σ Γ :=
  G.putAll hD e0 so rfl (fun j e hj => .inr ⟨hj, fun ys z => n j ys (by rw [← z]; exact hj)⟩) G.inj
/-- an own list is data from now on -/
theorem Good.freeze (G : Good c O H σ Γ) {ds : List PyData} (hi : Γ[i]? = some (some (.o D (.l ds)))) (n : D ∉ c.OB) : ∃ O', Good c O' H σ (Γ.set i (some (.d (.list ds)))) := by
  obtain ⟨v, hv, hD, rfl, vs, e0, d0⟩ := G.at_ i _ hi
  have sub : ∀ x, DS c (O.filter fun x => decide (x ≠ D)) x → DS c O x := fun x h => h.imp id fun z => (List.mem_filter.mp z).1
  have nD : ¬ DS c (O.filter fun x => decide (x ≠ D)) D := fun h => h.elim (fun z => G.off hD z) fun z => of_decide_eq_true (List.mem_filter.mp z).2 rfl
  have mem : ∀ {x}, x ∈ O → x ≠ D → x ∈ O.filter fun x => decide (x ≠ D) := fun h1 h2 => List.mem_filter.mpr ⟨h1, decide_eq_true h2⟩
  refine ⟨O.filter fun x => decide (x ≠ D), by rw [List.length_set]; exact G.len, fun j e hj => ?_, G.ks, G.j, fun x hx => G.fr x (List.mem_filter.mp hx).1, fun a b D' xs' ys' ha hb => ?_, fun x o nx e => ?_, fun x hx => G.ob x (List.mem_filter.mp hx).1, fun x hx => mem (G.oo x hx) fun z => n (by rw [← z]; exact hx)⟩
  · rcases setGet hj with ⟨rfl, q, _⟩ | ⟨q, hj2⟩
    · cases q
      exact ⟨_, hv, .lst (fun H2 k => .inl (k D _ nD e0)) (d0.sub sub)⟩
    · obtain ⟨v, a, b⟩ := G.at_ j e hj2
      refine ⟨v, a, ?_⟩
      cases e with
      | d x => exact Dq.sub b sub
      | o D' zs =>
        obtain ⟨b1, b2, b3⟩ := b
        exact ⟨mem b1 fun z => q (G.inj i j D _ zs hi (by rw [← z]; exact hj2)), b2, b3.mv (fun _ q => q) (.sub sub)⟩
      | p P => exact St'.sub sub b
  · rcases setGet ha with ⟨_, q, _⟩ | ⟨_, ha⟩
    · cases q
    · rcases setGet hb with ⟨_, q, _⟩ | ⟨_, hb⟩
      · cases q
      · exact G.inj a b D' xs' ys' ha hb
  · by_cases q : x = D
    · subst q
      rcases G.ob _ hD with z | z
      · exact absurd z n
      · rw [e] at z
        cases z
    · exact G.bs x o (fun z => nx (z.imp id fun w => mem w q)) e
/-- where a loop begins -/
abbrev Cf.at (c : Cf) (H : Hp) (O : Own) : Cf := { c with B := H, OB := O }
theorem Se.at_ {H1 : Hp} {O1 : Own} (h : Se c O H e v) : Se (c.at H1 O1) O H e v := by
  cases e <;> exact h
theorem Se.un {H1 : Hp} {O1 : Own} (h : Se (c.at H1 O1) O H e v) : Se c O H e v := by
  cases e <;> exact h
theorem Good.into (G : Good c O H σ Γ) : Good (c.at H O) O H σ Γ := ⟨G.len, fun i e h => let ⟨v, a, b⟩ := G.at_ i e h; ⟨v, a, b.at_⟩, G.ks, G.j, G.fr, G.inj, KS.refl, fun _ h => .inl h, fun _ h => h⟩
theorem Good.outof {H1 : Hp} {O1 : Own} {σ1 : St} {Γ1 : Gm} (G1 : Good c O1 H1 σ1 Γ1) (G : Good (c.at H1 O1) O H σ Γ) : Good c O H σ Γ := by
  refine ⟨G.len, fun i e h => let ⟨v, a, b⟩ := G.at_ i e h; ⟨v, a, b.un⟩, G.ks, G.j, G.fr, G.inj, fun x o n e => G.bs x o n (G1.bs x o (fun z => n (z.imp id (G.oo x))) e), fun x hx => ?_, fun x hx => G.oo x (G1.oo x hx)⟩
  rcases G.ob x hx with z | z
  · exact G1.ob x z
  · cases e : c.B x with
    | none => exact .inr rfl
    | some o =>
      have z : H1 x = none := z
      have nx : ¬ DS c O1 x := fun w => G1.al x w z
      rw [G1.bs x o nx e] at z
      cases z
end
end L2.Da


namespace L2.Da
open PySem L2 L2.Bv L2.Ts
/-! ### expressions -/
theorem stRd {S : Addr → Prop} {H : Hp} {p : Addr} {xs : List V} (e : H p = some (.lst xs)) (n : ¬ S p) : St' S H fun H' => Rd H' p (.lst xs) := fun H2 k => .inl (k p _ n e)
/-- the value that te comes to is told by P -/
def Vx (c : Cf) (Γ : Gm) (te : TE) (P : Own → Hp → V → Prop) : Prop := ∀ (O : Own) (H : Hp) (σ : St), Good c O H σ Γ → ∀ Q : VK, (∀ v H', KS c.M H H' → c.J H' → P O H' v → Q v H') → te σ H Q
/-- te is x -/
abbrev Vd (c : Cf) (Γ : Gm) (te : TE) (x : PyData) : Prop := Vx c Γ te fun O H v => Dq c.K (DS c O) H v x
/-- te is x for now -/
abbrev Vw (c : Cf) (Γ : Gm) (te : TE) (x : PyData) : Prop := Vx c Γ te fun _ H v => Dq c.K c.M H v x
/-- te is one of the things that R tells -/
abbrev Vr (c : Cf) (Γ : Gm) (te : TE) (R : PyData → Prop) : Prop := Vx c Γ te fun O H v => ∃ x, R x ∧ Dq c.K (DS c O) H v x
/-- te is what e tells -/
abbrev Ve (c : Cf) (Γ : Gm) (te : TE) (e : Ent) : Prop := Vx c Γ te fun O H v => Se c O H e v
/-- te is a new list of xs -/
def Vf (c : Cf) (Γ : Gm) (te : TE) (R : List PyData → Prop) : Prop := ∀ (O : Own) (H : Hp) (σ : St), Good c O H σ Γ → ∀ Q : VK, (∀ D vs xs H1 H', R xs → KS c.M H H1 → c.J H1 → H1 D = none → H' = upd H1 D (.lst vs) → xs.length ≤ sizeLine → DqAll c.K (DS c O) H1 vs xs → Q (.ref D) H') → te σ H Q
/-- the arguments are the ds -/
def VA (c : Cf) (Γ : Gm) (ta : TA) (ds : List PyData) : Prop := ∀ (O : Own) (H : Hp) (σ : St), Good c O H σ Γ → ∀ Q : List V → Hp → Prop, (∀ vs H', KS c.M H H' → c.J H' → DqAll c.K (DS c O) H' vs ds → Q vs H') → ta σ H Q
/-- for now -/
def VAw (c : Cf) (Γ : Gm) (ta : TA) (ds : List PyData) : Prop := ∀ (O : Own) (H : Hp) (σ : St), Good c O H σ Γ → ∀ Q : List V → Hp → Prop, (∀ vs H', KS c.M H H' → c.J H' → DqAll c.K c.M H' vs ds → Q vs H') → ta σ H Q
/-- the test gives what R tells -/
def Tt (c : Cf) (Γ : Gm) (tt : TT) (R : Bool → Prop) : Prop := ∀ (O : Own) (H : Hp) (σ : St), Good c O H σ Γ → ∀ Q : Bool → Hp → Prop, (∀ b H', KS c.M H H' → c.J H' → R b → Q b H') → tt σ H Q
abbrev Td (c : Cf) (Γ : Gm) (tt : TT) (b : Bool) : Prop := Tt c Γ tt (· = b)
section
variable {c : Cf} {Γ : Gm} {te ta tb : TE} {tt tu : TT} {tA : TA} {x y z : PyData} {e : Ent} {P P' : Own → Hp → V → Prop} {xs ys ds : List PyData} {b b' : Bool} {R : PyData → Prop}
theorem Vx.mono (h : Vx c Γ te P) (k : ∀ O H v, P O H v → P' O H v) : Vx c Γ te P' := fun O H σ G Q q => h O H σ G Q fun v H' a b p => q v H' a b (k O H' v p)
theorem Vd.w (h : Vd c Γ te x) : Vw c Γ te x := Vx.mono h fun _ _ _ p => p.sub fun _ => dsM
theorem Vd.r (h : Vd c Γ te x) (r : R x) : Vr c Γ te R := Vx.mono h fun _ _ _ p => ⟨x, r, p⟩
theorem Vd.toE (h : Vd c Γ te x) : Ve c Γ te (.d x) := h
theorem Ve.toD (h : Ve c Γ te (.d x)) : Vd c Γ te x := h
theorem Ve.w {D : Addr} (h : Ve c Γ te (.o D (.l xs))) : Vw c Γ te (.list xs) := fun O H σ G Q q => h O H σ G Q fun v H' a b p => by
  obtain ⟨p1, rfl, vs, p2, p3⟩ := p
  exact q _ _ a b (.lst (stRd p2 fun z => G.off p1 (c.sub D z)) (p3.sub fun _ => dsM))
theorem Vr.w1 (h : Vr c Γ te R) {x : PyData} (k : ∀ y, R y → y = x) : Vd c Γ te x := Vx.mono h fun _ _ _ ⟨y, r, p⟩ => k y r ▸ p
theorem v_var {i : Nat} (h : Γ[i]? = some (some e)) : Ve c Γ (tVar i) e := fun O H σ G Q q => by
  obtain ⟨v, a, s⟩ := G.at_ i e h
  exact ⟨v, a, q v H KS.refl G.j s⟩
theorem v_vd {i : Nat} (h : Γ[i]? = some (some (.d x))) : Vd c Γ (tVar i) x := v_var h
theorem v_vo {i : Nat} {D : Addr} (h : Γ[i]? = some (some (.o D (.l xs)))) : Vw c Γ (tVar i) (.list xs) := Ve.w (v_var h)
theorem v_sc {v : V} (s : Sc x v) : Vd c Γ (tC v) x := fun O H σ G Q q => q v H KS.refl G.j s.dq
theorem v_int (n : Int) : Vd c Γ (tC (.int n)) (.int n) := v_sc (.int n)
theorem v_str (z : Str) : Vd c Γ (tC (.str z)) (.str z) := v_sc (.str z)
theorem v_bl (b : Bool) : Vd c Γ (tC (.bl b)) (.bool b) := v_sc (.bl b)
theorem v_non : Vd c Γ (tC .non) .none := v_sc .non
/-! arguments -/
theorem va_nil : VA c Γ tNil [] := fun O H σ G Q q => q [] H KS.refl G.j .nil
theorem va_cons (h : Vd c Γ ta x) (k : VA c Γ tA ds) : VA c Γ (tCons ta tA) (x :: ds) := fun O H σ G Q q => by
  refine h O H σ G _ fun v H1 k1 j1 p1 => ?_
  refine k O H1 σ (G.go k1 j1) _ fun vs H2 k2 j2 p2 => ?_
  exact q _ _ (k1.trans k2) j2 (.cons (p1.go (k2.sub fun _ => dsM)) p2)
theorem vw_nil : VAw c Γ tNil [] := fun O H σ G Q q => q [] H KS.refl G.j .nil
theorem vw_cons (h : Vw c Γ ta x) (k : VAw c Γ tA ds) : VAw c Γ (tCons ta tA) (x :: ds) := fun O H σ G Q q => by
  refine h O H σ G _ fun v H1 k1 j1 p1 => ?_
  refine k O H1 σ (G.go k1 j1) _ fun vs H2 k2 j2 p2 => ?_
  exact q _ _ (k1.trans k2) j2 (.cons (p1.go k2) p2)
theorem VA.w (h : VA c Γ tA ds) : VAw c Γ tA ds := fun O H σ G Q q => h O H σ G Q fun vs H' a b p => q vs H' a b (p.sub fun _ => dsM)
theorem Good.sameNew {O : Own} {H : Hp} {σ : St} {p : Addr} (G : Good c O H σ Γ) (u : HO) (h : H p = none) : Good c O (upd H p u) σ Γ := G.same fun x o e => by
  rw [upd_ne (ne_of_none e h)]
  exact e
theorem ksNew {M : Addr → Prop} {H : Hp} {p : Addr} (u : HO) (h : H p = none) : KS M H (upd H p u) := KS.new h
/-- a new thing at p, of the items vs -/
theorem dqTup {K : PySem.W.Frag} {S : Addr → Prop} {H : Hp} {p : Addr} {vs : List V} (al : Al S H) (h : H p = none) (d : DqAll K S H vs xs) : Dq K S (upd H p (.tup vs)) (.ref p) (.tuple xs) :=
  .tup (St'.sqT upd_same (al.off h)) (d.go (KS.new h))
theorem dqLst {K : PySem.W.Frag} {S : Addr → Prop} {H : Hp} {p : Addr} {vs : List V} (al : Al S H) (h : H p = none) (d : DqAll K S H vs xs) : Dq K S (upd H p (.lst vs)) (.ref p) (.list xs) :=
  .lst (stRd upd_same (al.off h)) (d.go (KS.new h))
theorem v_tup (h : VA c Γ tA ds) (l : ds.length ≤ sizeLine) : Vd c Γ (tTup tA) (.tuple ds) := fun O H σ G Q q => by
  refine h O H σ G _ fun vs H1 k1 j1 p1 => ⟨by rw [p1.length]; exact l, fun p hp => ?_⟩
  have G1 := G.go k1 j1
  exact q _ _ (k1.trans (ksNew _ hp)) (G1.sameNew _ hp).j (dqTup G1.al hp p1)
theorem f_lst (h : VA c Γ tA ds) (l : ds.length ≤ sizeLine) : Vf c Γ (tLst tA) (· = ds) := fun O H σ G Q q => by
  refine h O H σ G _ fun vs H1 k1 j1 p1 => ⟨by rw [p1.length]; exact l, fun p hp => ?_⟩
  exact q p vs ds H1 _ rfl k1 j1 hp rfl l p1
theorem Vf.r {Rl : List PyData → Prop} (h : Vf c Γ te Rl) (k : ∀ xs, Rl xs → R (.list xs)) : Vr c Γ te R := fun O H σ G Q q => by
  refine h O H σ G _ fun D vs xs H1 H' r k1 j1 hd e l a => ?_
  subst e
  have G1 := G.go k1 j1
  exact q _ _ (k1.trans (ksNew _ hd)) (G1.sameNew _ hd).j ⟨_, k xs r, dqLst G1.al hd a⟩
theorem Vf.d (h : Vf c Γ te (· = xs)) : Vd c Γ te (.list xs) := Vr.w1 (Vf.r (R := (· = .list xs)) h fun ys e => by rw [e]) fun y e => e
theorem v_lst (h : VA c Γ tA ds) (l : ds.length ≤ sizeLine) : Vd c Γ (tLst tA) (.list ds) := (f_lst h l).d
/-! tests -/
theorem t_B (h : Vw c Γ te (.bool b)) : Td c Γ (tB te) b := fun O H σ G Q q => by
  refine h O H σ G _ fun v H' a j p => ⟨b, ?_, q b H' a j rfl⟩
  cases p
  rfl
theorem t_Br {Rb : Bool → Prop} (h : Vr c Γ te R) (k : ∀ y, R y → ∃ b, y = .bool b ∧ Rb b) : Tt c Γ (tB te) Rb := fun O H σ G Q q => by
  refine h O H σ G _ fun v H' a j p => ?_
  obtain ⟨y, r, p⟩ := p
  obtain ⟨b, rfl, rb⟩ := k y r
  refine ⟨b, ?_, q b H' a j rb⟩
  cases p
  rfl
theorem t_not (h : Td c Γ tt b) : Td c Γ (tNot tt) (!b) := fun O H σ G Q q => h O H σ G _ fun d H' a j e => q _ H' a j (by rw [e])
theorem t_and (h : Td c Γ tt b) (k : b = true → Td c Γ tu b') : Td c Γ (tAnd tt tu) (b && b') := fun O H σ G Q q => by
  refine h O H σ G _ fun d H1 k1 j1 e => ?_
  subst e
  cases d with
  | true => exact k rfl O H1 σ (G.go k1 j1) Q fun d H2 k2 j2 e => q d H2 (k1.trans k2) j2 e
  | false => exact q false H1 k1 j1 rfl
theorem t_or (h : Td c Γ tt b) (k : b = false → Td c Γ tu b') : Td c Γ (tOr tt tu) (b || b') := fun O H σ G Q q => by
  refine h O H σ G _ fun d H1 k1 j1 e => ?_
  subst e
  cases d with
  | false => exact k rfl O H1 σ (G.go k1 j1) Q fun d H2 k2 j2 e => q d H2 (k1.trans k2) j2 e
  | true => exact q true H1 k1 j1 rfl
theorem t_yes : Td c Γ tYes true := fun O H σ G Q q => q true H KS.refl G.j rfl
theorem v_if (h : Td c Γ tt b) (k1 : b = true → Vx c Γ ta P) (k2 : b = false → Vx c Γ tb P) : Vx c Γ (tIf tt ta tb) P := fun O H σ G Q q => by
  refine h O H σ G _ fun d H1 a1 j1 e => ?_
  subst e
  cases d with
  | true => exact k1 rfl O H1 σ (G.go a1 j1) Q fun v H2 a2 j2 p => q v H2 (a1.trans a2) j2 p
  | false => exact k2 rfl O H1 σ (G.go a1 j1) Q fun v H2 a2 j2 p => q v H2 (a1.trans a2) j2 p
theorem v_ifd (h : Td c Γ tt b) (k1 : b = true → Vd c Γ ta x) (k2 : b = false → Vd c Γ tb y) : Vd c Γ (tIf tt ta tb) (if b = true then x else y) := v_if h (fun e => by rw [if_pos e]; exact k1 e) (fun e => by rw [if_neg (by rw [e]; exact Bool.noConfusion)]; exact k2 e)
theorem v_and (h : Vw c Γ ta (.bool b)) (k : b = true → Vd c Γ tb (.bool b')) : Vd c Γ (tAndV ta tb) (.bool (b && b')) := fun O H σ G Q q => by
  refine h O H σ G _ fun v H1 k1 j1 p => ⟨b, by cases p; rfl, ?_⟩
  cases b with
  | true => exact k rfl O H1 σ (G.go k1 j1) Q fun d H2 k2 j2 e => q d H2 (k1.trans k2) j2 e
  | false => exact q _ H1 k1 j1 (.bl false)
theorem v_or (h : Vw c Γ ta (.bool b)) (k : b = false → Vd c Γ tb (.bool b')) : Vd c Γ (tOrV ta tb) (.bool (b || b')) := fun O H σ G Q q => by
  refine h O H σ G _ fun v H1 k1 j1 p => ⟨b, by cases p; rfl, ?_⟩
  cases b with
  | false => exact k rfl O H1 σ (G.go k1 j1) Q fun d H2 k2 j2 e => q d H2 (k1.trans k2) j2 e
  | true => exact q _ H1 k1 j1 (.bl true)
theorem v_not (h : Vw c Γ ta (.bool b)) : Vd c Γ (tNotV ta) (.bool (!b)) := fun O H σ G Q q => by
  refine h O H σ G _ fun v H1 k1 j1 p => ⟨b, by cases p; rfl, q _ H1 k1 j1 (.bl _)⟩
/-! operators -/
theorem v_op2 {r : R2} (ha : Vw c Γ ta x) (hb : Vw c Γ tb y) (h : ∀ (O : Own) (H : Hp) (σ : St) (v u : V) (Q : VK), Good c O H σ Γ → Dq c.K c.M H v x → Dq c.K c.M H u y → (∀ w H', KS c.M H H' → c.J H' → P O H' w → Q w H') → r v u H Q) : Vx c Γ (tOp r ta tb) P := fun O H σ G Q q => by
  refine ha O H σ G _ fun v H1 k1 j1 p1 => ?_
  refine hb O H1 σ (G.go k1 j1) _ fun u H2 k2 j2 p2 => ?_
  exact h O H2 σ v u Q ((G.go k1 j1).go k2 j2) (p1.go k2) p2 fun w H' k3 j3 p3 => q w H' ((k1.trans k2).trans k3) j3 p3
theorem v_op2d {r : R2} (ha : Vd c Γ ta x) (hb : Vd c Γ tb y) (h : ∀ (O : Own) (H : Hp) (σ : St) (v u : V) (Q : VK), Good c O H σ Γ → Dq c.K (DS c O) H v x → Dq c.K (DS c O) H u y → (∀ w H', KS c.M H H' → c.J H' → P O H' w → Q w H') → r v u H Q) : Vx c Γ (tOp r ta tb) P := fun O H σ G Q q => by
  refine ha O H σ G _ fun v H1 k1 j1 p1 => ?_
  refine hb O H1 σ (G.go k1 j1) _ fun u H2 k2 j2 p2 => ?_
  exact h O H2 σ v u Q ((G.go k1 j1).go k2 j2) (p1.go (k2.sub fun _ => dsM)) p2 fun w H' k3 j3 p3 => q w H' ((k1.trans k2).trans k3) j3 p3
theorem v_opS {r : R2} {vx vy vz : V} (sx : Sc x vx) (sy : Sc y vy) (sz : Sc z vz) (ha : Vw c Γ ta x) (hb : Vw c Γ tb y) (h : ∀ (H : Hp) (Q : VK), Q vz H → r vx vy H Q) : Vd c Γ (tOp r ta tb) z :=
  v_op2 ha hb fun O H σ v u Q G d1 d2 q => by
    rw [sx.eq d1, sy.eq d2]
    exact h H Q (q vz H KS.refl G.j sz.dq)
theorem v_un {r : V → Hp → VK → Prop} {vx vz : V} (sx : Sc x vx) (sz : Sc z vz) (ha : Vw c Γ ta x) (h : ∀ (H : Hp) (Q : VK), Q vz H → r vx H Q) : Vd c Γ (tUn r ta) z := fun O H σ G Q q => by
  refine ha O H σ G _ fun v H1 k1 j1 p1 => ?_
  rw [sx.eq p1]
  exact h H1 Q (q vz H1 k1 j1 sz.dq)
variable {K : PySem.W.Frag} {m n : Int} {s t : Str}
theorem v_addI (ha : Vw c Γ ta (.int m)) (hb : Vw c Γ tb (.int n)) : Vd c Γ (tOp (rI0 fun i j => .int (i + j)) ta tb) (.int (m + n)) := v_opS (.int _) (.int _) (.int _) ha hb fun H Q q => ⟨_, _, rfl, rfl, q⟩
theorem v_subI (ha : Vw c Γ ta (.int m)) (hb : Vw c Γ tb (.int n)) : Vd c Γ (tOp (rI0 fun i j => .int (i - j)) ta tb) (.int (m - n)) := v_opS (.int _) (.int _) (.int _) ha hb fun H Q q => ⟨_, _, rfl, rfl, q⟩
/-- like things are compared -/
theorem v_eq {vx vy : V} (sx : Sc x vx) (sy : Sc y vy) (k : scal vx vy = true) (ha : Vw c Γ ta x) (hb : Vw c Γ tb y) : Vd c Γ (tOp rEq ta tb) (.bool (decide (vx = vy))) := v_opS sx sy (.bl _) ha hb fun H Q q => ⟨k, q⟩
theorem v_ne {vx vy : V} (sx : Sc x vx) (sy : Sc y vy) (k : scal vx vy = true) (ha : Vw c Γ ta x) (hb : Vw c Γ tb y) : Vd c Γ (tOp rNe ta tb) (.bool (!decide (vx = vy))) := v_opS sx sy (.bl _) ha hb fun H Q q => ⟨k, q⟩
theorem decS : decide (V.str s = V.str t) = decide (s = t) := by
  by_cases e : s = t
  · rw [e, decide_eq_true rfl, decide_eq_true rfl]
  · rw [decide_eq_false e, decide_eq_false fun z => e (V.str.inj z)]
theorem decI : decide (V.int m = V.int n) = decide (m = n) := by
  by_cases e : m = n
  · rw [e, decide_eq_true rfl, decide_eq_true rfl]
  · rw [decide_eq_false e, decide_eq_false fun z => e (V.int.inj z)]
theorem v_eqS (ha : Vw c Γ ta (.str s)) (hb : Vw c Γ tb (.str t)) : Vd c Γ (tOp rEq ta tb) (.bool (decide (s = t))) := by
  rw [← decS]
  exact v_eq (.str s) (.str t) rfl ha hb
theorem v_neS (ha : Vw c Γ ta (.str s)) (hb : Vw c Γ tb (.str t)) : Vd c Γ (tOp rNe ta tb) (.bool (!decide (s = t))) := by
  rw [← decS]
  exact v_ne (.str s) (.str t) rfl ha hb
theorem v_eqI (ha : Vw c Γ ta (.int m)) (hb : Vw c Γ tb (.int n)) : Vd c Γ (tOp rEq ta tb) (.bool (decide (m = n))) := by
  rw [← decI]
  exact v_eq (.int m) (.int n) rfl ha hb
theorem v_neI (ha : Vw c Γ ta (.int m)) (hb : Vw c Γ tb (.int n)) : Vd c Γ (tOp rNe ta tb) (.bool (!decide (m = n))) := by
  rw [← decI]
  exact v_ne (.int m) (.int n) rfl ha hb
theorem v_eqD (ha : Vw c Γ ta x) (hb : Vw c Γ tb y) (sx : SeqAt.shaped x = true) (sy : SeqAt.shaped y = true) (hK : K = c.K := by rfl) : Vd c Γ (tOp (rEqD K) ta tb) (.bool (PyData.eqv x y)) :=
  v_op2 ha hb fun O H σ v u Q G d1 d2 q => ⟨x, y, hK ▸ d1.dp, hK ▸ d2.dp, sx, sy, q _ H KS.refl G.j (.bl _)⟩
theorem v_neD (ha : Vw c Γ ta x) (hb : Vw c Γ tb y) (sx : SeqAt.shaped x = true) (sy : SeqAt.shaped y = true) (hK : K = c.K := by rfl) : Vd c Γ (tOp (rNeD K) ta tb) (.bool (!PyData.eqv x y)) :=
  v_op2 ha hb fun O H σ v u Q G d1 d2 q => ⟨x, y, hK ▸ d1.dp, hK ▸ d2.dp, sx, sy, q _ H KS.refl G.j (.bl _)⟩
end
end L2.Da


namespace L2.Da
open PySem L2 L2.Bv L2.Ts
section
variable {c : Cf} {Γ : Gm} {te ta tb : TE} {tt tu : TT} {tA : TA} {x y z : PyData} {e : Ent} {P P' : Own → Hp → V → Prop} {xs ys ds : List PyData} {b b' : Bool} {R : PyData → Prop} {K : PySem.W.Frag} {m n : Int} {s t : Str}
/-! ### sequences -/
theorem sqLRd {H : Hp} {a : Addr} {xs : List V} (h : Rd H a (.lst xs)) : SqL K H a xs := .inl h
theorem ixMap {α β : Type} {xs : List α} {ys : List β} (h : xs.length = ys.length) {i : Int} {y : β} (e : atI ys i = some y) : ∃ (j : Nat) (x : α), atI xs i = some x ∧ xs[j]? = some x ∧ ys[j]? = some y := by
  unfold atI at e ⊢
  rw [h]
  cases q : ixN ys.length i with
  | none =>
    rw [q] at e
    cases e
  | some j =>
    rw [q] at e
    have e : ys[j]? = some y := e
    have lt := (List.getElem?_eq_some_iff.mp e).1
    exact ⟨j, xs[j]'(by omega), by show xs[j]? = _; exact List.getElem?_eq_getElem (by omega), List.getElem?_eq_getElem (by omega), e⟩
/-- an item of a tuple -/
theorem v_ixT (hK : K = c.K) (ha : Vd c Γ ta (.tuple xs)) (hb : Vw c Γ tb (.int n)) (h : atI xs n = some x) : Vd c Γ (tOp (rIxT K) ta tb) x := fun O H σ G Q q => by
  subst hK
  refine ha O H σ G _ fun v H1 k1 j1 p1 => ?_
  refine hb O H1 σ (G.go k1 j1) _ fun u H2 k2 j2 p2 => ?_
  cases p1 with
  | tup h1 h2 =>
    cases p2
    obtain ⟨j, w, e1, e2, e3⟩ := ixMap h2.length h
    obtain ⟨d, e4, dw⟩ := h2.get e2
    rw [e3] at e4
    cases e4
    have kk := k2.sub fun _ => dsM (O := O)
    exact ⟨_, _, _, _, rfl, rfl, (h1.go kk).now, e1, q _ _ (k1.trans k2) j2 (dw.go kk)⟩
/-- an item of a list -/
theorem v_ixL (hK : K = c.K) (ha : Vd c Γ ta (.list xs)) (hb : Vw c Γ tb (.int n)) (h : atI xs n = some x) : Vd c Γ (tOp (rIxL K) ta tb) x := fun O H σ G Q q => by
  subst hK
  refine ha O H σ G _ fun v H1 k1 j1 p1 => ?_
  refine hb O H1 σ (G.go k1 j1) _ fun u H2 k2 j2 p2 => ?_
  cases p1 with
  | lst h1 h2 =>
    cases p2
    obtain ⟨j, w, e1, e2, e3⟩ := ixMap h2.length h
    obtain ⟨d, e4, dw⟩ := h2.get e2
    rw [e3] at e4
    cases e4
    have kk := k2.sub fun _ => dsM (O := O)
    exact ⟨_, _, _, _, rfl, rfl, sqLRd (h1.go kk).now, e1, q _ _ (k1.trans k2) j2 (dw.go kk)⟩
/-- an item of a list of its own -/
theorem v_ixO {D : Addr} (hK : K = c.K) (ha : Ve c Γ ta (.o D (.l xs))) (hb : Vw c Γ tb (.int n)) (h : atI xs n = some x) : Vd c Γ (tOp (rIxL K) ta tb) x := fun O H σ G Q q => by
  subst hK
  refine ha O H σ G _ fun v H1 k1 j1 p1 => ?_
  have G1 := G.go k1 j1
  refine hb O H1 σ G1 _ fun u H2 k2 j2 p2 => ?_
  obtain ⟨a, rfl, vs, e0, h2⟩ := Se.go G1 k2 p1
  cases p2
  obtain ⟨j, w, e1, e2, e3⟩ := ixMap h2.length h
  obtain ⟨d, e4, dw⟩ := h2.get e2
  rw [e3] at e4
  cases e4
  exact ⟨_, _, _, _, rfl, rfl, SqL.of e0, e1, q _ _ (k1.trans k2) j2 dw⟩
/-- a sign of a text -/
theorem v_ixS {p : Nat} (ha : Vw c Γ ta (.str s)) (hb : Vw c Γ tb (.int n)) (l : s.length ≤ sizeLine) (h : atI s.cps.toList n = some p) : Vd c Γ (tOp rIxS ta tb) (.str ⟨#[p]⟩) := v_opS (.str _) (.int _) (.str _) ha hb fun H Q q => ⟨s, n, p, rfl, rfl, l, h, q⟩
/-- len -/
theorem w_seq {H : Hp} {S : Addr → Prop} {v : V} (h : Dq K S H v (.list xs) ∨ Dq K S H v (.tuple xs)) : ∃ p vs, v = .ref p ∧ (SqL K H p vs ∨ SqT K H p vs) ∧ vs.length = xs.length := by
  rcases h with h | h
  · cases h with
    | lst h1 h2 => exact ⟨_, _, rfl, .inl (sqLRd h1.now), h2.length⟩
  · cases h with
    | tup h1 h2 => exact ⟨_, _, rfl, .inr h1.now, h2.length⟩
theorem v_len1 (hK : K = c.K) (h : VAw c Γ tA [y]) (hy : y = .list xs ∨ y = .tuple xs) : Vd c Γ (tCB (rLenS K) tA) (.int (xs.length : Nat)) := fun O H σ G Q q => by
  subst hK
  refine h O H σ G _ fun vs H1 k1 j1 p1 => ?_
  cases p1 with
  | cons d r =>
    cases r
    obtain ⟨p, ws, rfl, sq, l⟩ := w_seq (xs := xs) (hy.imp (fun z => z ▸ d) fun z => z ▸ d)
    refine ⟨p, ws, rfl, sq, ?_⟩
    rw [l]
    exact q _ _ k1 j1 (.int _)
theorem v_lenL (hK : K = c.K) (h : VAw c Γ tA [.list xs]) : Vd c Γ (tCB (rLenS K) tA) (.int (xs.length : Nat)) := v_len1 hK h (.inl rfl)
theorem v_lenT (hK : K = c.K) (h : VAw c Γ tA [.tuple xs]) : Vd c Γ (tCB (rLenS K) tA) (.int (xs.length : Nat)) := v_len1 hK h (.inr rfl)
/-- tuple(a list) -/
theorem v_tupL (hK : K = c.K) (h : VA c Γ tA [.list xs]) : Vd c Γ (tCB (rTupOf K) tA) (.tuple xs) := fun O H σ G Q q => by
  subst hK
  refine h O H σ G _ fun vs H1 k1 j1 p1 => ?_
  have G1 := G.go k1 j1
  cases p1 with
  | cons d r =>
    cases r
    cases d with
    | lst h1 h2 => exact ⟨_, _, rfl, .inl ⟨sqLRd h1.now, fun l hl => q _ _ (k1.trans (ksNew _ hl)) (G1.sameNew _ hl).j (dqTup G1.al hl h2)⟩⟩
theorem v_tupT (hK : K = c.K) (h : VA c Γ tA [.tuple xs]) : Vd c Γ (tCB (rTupOf K) tA) (.tuple xs) := fun O H σ G Q q => by
  subst hK
  refine h O H σ G _ fun vs H1 k1 j1 p1 => ?_
  cases p1 with
  | cons d r =>
    cases r
    cases d with
    | tup h1 h2 => exact ⟨_, _, rfl, .inr ⟨h1.now, q _ _ k1 j1 (.tup h1 h2)⟩⟩
/-- an own list handed over -/
theorem v_tupO {D : Addr} (hK : K = c.K) (h : Ve c Γ te (.o D (.l xs))) : Vd c Γ (tCB (rTupOf K) (tCons te tNil)) (.tuple xs) := fun O H σ G Q q => by
  subst hK
  refine h O H σ G _ fun v H1 k1 j1 p1 => ?_
  have G1 := G.go k1 j1
  obtain ⟨a, rfl, vs, e0, h2⟩ := p1
  exact ⟨_, _, rfl, .inl ⟨SqL.of e0, fun l hl => q _ _ (k1.trans (ksNew _ hl)) (G1.sameNew _ hl).j (dqTup G1.al hl h2)⟩⟩
/-- list(..) -/
def rListOf (K : PySem.W.Frag) : List V → Hp → VK → Prop := fun xs H Q => ∃ p ys, xs = [V.ref p] ∧ (SqL K H p ys ∨ SqT K H p ys) ∧ ∀ l, H l = none → Q (.ref l) (upd H l (.lst ys))
theorem listOfK {X : Cx} (hK : X.K = K) : CallR X (.type "list") (rListOf K) := hK ▸ call_list_of
theorem f_list1 (hK : K = c.K) (h : VA c Γ tA [y]) (hy : y = .list xs ∨ y = .tuple xs) (l : xs.length ≤ sizeLine) : Vf c Γ (tCB (rListOf K) tA) (· = xs) := fun O H σ G Q q => by
  subst hK
  refine h O H σ G _ fun vs H1 k1 j1 p1 => ?_
  cases p1 with
  | cons d r =>
    cases r
    rcases hy with rfl | rfl
    · cases d with
      | lst h1 h2 => exact ⟨_, _, rfl, .inl (sqLRd h1.now), fun p hp => q p _ xs H1 _ rfl k1 j1 hp rfl l h2⟩
    · cases d with
      | tup h1 h2 => exact ⟨_, _, rfl, .inr h1.now, fun p hp => q p _ xs H1 _ rfl k1 j1 hp rfl l h2⟩
theorem f_listL (hK : K = c.K) (h : VA c Γ tA [.list xs]) (l : xs.length ≤ sizeLine) : Vf c Γ (tCB (rListOf K) tA) (· = xs) := f_list1 hK h (.inl rfl) l
theorem f_listT (hK : K = c.K) (h : VA c Γ tA [.tuple xs]) (l : xs.length ≤ sizeLine) : Vf c Γ (tCB (rListOf K) tA) (· = xs) := f_list1 hK h (.inr rfl) l
/-- a + b, lists -/
def rCatR : R2 := fun x y H Q => ∃ l b xs zs, x = .ref l ∧ y = .ref b ∧ Rd H l (.lst xs) ∧ Rd H b (.lst zs) ∧ xs.length + zs.length ≤ sizeLine ∧ ∀ p, H p = none → Q (.ref p) (upd H p (.lst (xs ++ zs)))
theorem op_catR {X : Cx} : OpR X (binaryOp .Add) rCatR := by
  intro pins s σ H x y v u Q I rx ry h
  obtain ⟨l, b, xs, zs, rfl, rfl, hH, hB, hz, q⟩ := h
  cases rx
  cases ry
  obtain ⟨z, its, n, r, e⟩ := hH.ok I.hok
  obtain ⟨z2, its2, n2, r2, e2⟩ := hB.ok I.hok
  have l1 := r.length
  have l2 := r2.length
  refine PySem.P.add_list e e2 ?_ (by rw [List.size_toArray, List.size_toArray]; omega)
  have ea : its.toArray ++ its2.toArray = (its ++ its2).toArray := by simp
  rw [ea]
  exact ⟨.ref _, _, I.lnew (t' := s.toks) (r.append r2) (by rw [List.length_append]; omega), rfl, q _ I.fresh⟩
theorem f_cat {xs ys : List PyData} (ha : Vd c Γ ta (.list xs)) (hb : Vd c Γ tb (.list ys)) (l : xs.length + ys.length ≤ sizeLine) : Vf c Γ (tOp rCatR ta tb) (· = xs ++ ys) := fun O H σ G Q q => by
  refine ha O H σ G _ fun v H1 k1 j1 p1 => ?_
  refine hb O H1 σ (G.go k1 j1) _ fun u H2 k2 j2 p2 => ?_
  have p1' := p1.go (k2.sub fun _ => dsM (O := O))
  cases p1' with
  | lst a1 a2 =>
    cases p2 with
    | lst b1 b2 =>
      refine ⟨_, _, _, _, rfl, rfl, a1.now, b1.now, by rw [a2.length, b2.length]; exact l, fun p hp => ?_⟩
      exact q p _ _ H2 _ rfl (k1.trans k2) j2 hp rfl (by rw [List.length_append]; exact l) (a2.append b2)
/-- t + u -/
def rCatAK (K : PySem.W.Frag) : R2 := rCatA K
theorem catTK {X : Cx} (hK : X.K = K) : OpR X (binaryOp .Add) (rCatA K) := hK ▸ op_catA
theorem v_catT (hK : K = c.K) (ha : Vd c Γ ta (.tuple xs)) (hb : Vd c Γ tb (.tuple ys)) (l : xs.length + ys.length ≤ sizeLine) : Vd c Γ (tOp (rCatA K) ta tb) (.tuple (xs ++ ys)) :=
  v_op2d ha hb fun O H σ v u Q G d1 d2 q => by
    subst hK
    cases d1 with
    | tup a1 a2 =>
      cases d2 with
      | tup b1 b2 =>
        rename_i p vs p' ws
        refine ⟨p, p', vs, ws, rfl, rfl, a1.now, b1.now, by rw [a2.length, b2.length]; exact l, fun e => ?_, fun _ e => ?_, fun _ _ r hr => ?_⟩
        · subst e
          cases a2
          exact q _ H KS.refl G.j (.tup b1 b2)
        · subst e
          cases b2
          rw [List.append_nil] at q
          exact q _ H KS.refl G.j (.tup a1 a2)
        · exact q _ _ (ksNew _ hr) (G.sameNew _ hr).j (dqTup G.al hr (a2.append b2))
/-- s + t, texts -/
theorem v_catS {r : R2} (ha : Vw c Γ ta (.str s)) (hb : Vw c Γ tb (.str t)) (h : ∀ (H : Hp) (Q : VK), Q (.str (s ++ t)) H → r (.str s) (.str t) H Q) : Vd c Γ (tOp r ta tb) (.str (s ++ t)) := v_opS (.str _) (.str _) (.str _) ha hb h
/-- x in a list or tuple, texts -/
theorem dqIn {H : Hp} {S : Addr → Prop} {v : V} {zs : List Str} (h : Dq K S H v y) (hy : y = .list (zs.map .str) ∨ y = .tuple (zs.map .str)) : ∃ p, v = .ref p ∧ (SqL K H p (zs.map V.str) ∨ SqT K H p (zs.map V.str)) := by
  rcases hy with rfl | rfl
  · cases h with
    | lst h1 h2 =>
      rw [dqStrs_inv zs h2] at h1
      exact ⟨_, rfl, .inl (sqLRd h1.now)⟩
  · cases h with
    | tup h1 h2 =>
      rw [dqStrs_inv zs h2] at h1
      exact ⟨_, rfl, .inr h1.now⟩
theorem v_inS {zs : List Str} {neg : Bool} (hK : K = c.K) (ha : Vw c Γ ta (.str s)) (hb : Vw c Γ tb y) (hy : y = .list (zs.map .str) ∨ y = .tuple (zs.map .str)) : Vd c Γ (tOp (rIn K neg) ta tb) (.bool (if neg then !decide (s ∈ zs) else decide (s ∈ zs))) :=
  v_op2 ha hb fun O H σ v u Q G d1 d2 q => by
    subst hK
    cases d1
    obtain ⟨p, rfl, sq⟩ := dqIn d2 hy
    refine ⟨p, zs.map V.str, rfl, sq, rfl, L2.Pc.flatStr zs, ?_⟩
    rw [L2.Pc.inStr]
    exact q _ H KS.refl G.j (.bl _)
theorem v_inL {zs : List Str} (hK : K = c.K) (ha : Vw c Γ ta (.str s)) (hb : Vw c Γ tb (.list (zs.map .str))) : Vd c Γ (tOp (rIn K false) ta tb) (.bool (decide (s ∈ zs))) := v_inS (neg := false) hK ha hb (.inl rfl)
theorem v_inT {zs : List Str} (hK : K = c.K) (ha : Vw c Γ ta (.str s)) (hb : Vw c Γ tb (.tuple (zs.map .str))) : Vd c Γ (tOp (rIn K false) ta tb) (.bool (decide (s ∈ zs))) := v_inS (neg := false) hK ha hb (.inr rfl)
theorem v_ninL {zs : List Str} (hK : K = c.K) (ha : Vw c Γ ta (.str s)) (hb : Vw c Γ tb (.list (zs.map .str))) : Vd c Γ (tOp (rIn K true) ta tb) (.bool (!decide (s ∈ zs))) := v_inS (neg := true) hK ha hb (.inl rfl)
theorem v_ninT {zs : List Str} (hK : K = c.K) (ha : Vw c Γ ta (.str s)) (hb : Vw c Γ tb (.tuple (zs.map .str))) : Vd c Γ (tOp (rIn K true) ta tb) (.bool (!decide (s ∈ zs))) := v_inS (neg := true) hK ha hb (.inr rfl)
/-- all, any of a list of truths -/
theorem allK {X : Cx} (hc : X.calm = true) (hK : X.K = K) : CallR X (.builtin "all") (rAll K) := hK ▸ cr_all hc
theorem anyK {X : Cx} (hc : X.calm = true) (hK : X.K = K) : CallR X (.builtin "any") (rAny K) := hK ▸ cr_any hc
theorem v_all {bs : List Bool} (hK : K = c.K) (h : VAw c Γ tA [.list (bs.map .bool)]) : Vd c Γ (tCB (rAll K) tA) (.bool (bs.all id)) := fun O H σ G Q q => by
  subst hK
  refine h O H σ G _ fun vs H1 k1 j1 p1 => ?_
  cases p1 with
  | cons d r =>
    cases r
    cases d with
    | lst h1 h2 =>
      rw [dqBls_inv bs h2] at h1
      exact ⟨_, bs, rfl, sqLRd h1.now, q _ _ k1 j1 (.bl _)⟩
theorem v_any {bs : List Bool} (hK : K = c.K) (h : VAw c Γ tA [.list (bs.map .bool)]) : Vd c Γ (tCB (rAny K) tA) (.bool (bs.any id)) := fun O H σ G Q q => by
  subst hK
  refine h O H σ G _ fun vs H1 k1 j1 p1 => ?_
  cases p1 with
  | cons d r =>
    cases r
    cases d with
    | lst h1 h2 =>
      rw [dqBls_inv bs h2] at h1
      exact ⟨_, bs, rfl, sqLRd h1.now, q _ _ k1 j1 (.bl _)⟩
/-! slices -/
/-- a part of a slice -/
def VO (c : Cf) (Γ : Gm) (to : TO) (i : Option Int) : Prop := ∀ (O : Own) (H : Hp) (σ : St), Good c O H σ Γ → ∀ Q : Option Int → Hp → Prop, (∀ H', KS c.M H H' → c.J H' → Q i H') → to σ H Q
theorem vo_no : VO c Γ tNoPart none := fun O H σ G Q q => q H KS.refl G.j
theorem vo_some (h : Vw c Γ te (.int n)) : VO c Γ (tPart te) (some n) := fun O H σ G Q q => h O H σ G _ fun v H' a j p => ⟨n, by cases p; rfl, q H' a j⟩
def cutD (xs : List PyData) (lo hi : Option Int) : List PyData := (xs.drop (HT.sIx xs.length 0 lo)).take (HT.sIx xs.length xs.length hi - HT.sIx xs.length 0 lo)
theorem DqAll.cut {S : Addr → Prop} {H : Hp} {vs : List V} (h : DqAll K S H vs xs) (lo hi : Option Int) : DqAll K S H (cutV vs lo hi) (cutD xs lo hi) := by
  unfold cutV cutD
  rw [h.length]
  exact (h.drop _).take _
theorem slTK {X : Cx} (hK : X.K = K) : SlR X (L2.rSlA K) := hK ▸ L2.sl_tupA
theorem slLK {X : Cx} (hK : X.K = K) : SlR X (rSlL K) := hK ▸ sl_list
theorem cutAll {vs : List V} {lo hi : Option Int} (h : HT.sIx vs.length 0 lo = 0 ∧ HT.sIx vs.length vs.length hi = vs.length) : cutV vs lo hi = vs := by
  unfold cutV
  rw [h.1, h.2, List.drop_zero, Nat.sub_zero, List.take_length]
theorem v_slT {tl th : TO} {lo hi : Option Int} (hK : K = c.K) (h : Vd c Γ te (.tuple xs)) (h1 : VO c Γ tl lo) (h2 : VO c Γ th hi) : Vd c Γ (tSl (L2.rSlA K) te tl th) (.tuple (cutD xs lo hi)) := fun O H σ G Q q => by
  subst hK
  refine h O H σ G _ fun v H1 k1 j1 p1 => ?_
  have G1 := G.go k1 j1
  refine h1 O H1 σ G1 _ fun H2 k2 j2 => ?_
  have G2 := G1.go k2 j2
  refine h2 O H2 σ G2 _ fun H3 k3 j3 => ?_
  have G3 := G2.go k3 j3
  have p3 := p1.go ((k2.trans k3).sub fun _ => dsM (O := O))
  have k13 := (k1.trans k2).trans k3
  cases p3 with
  | tup a1 a2 =>
    refine ⟨_, _, rfl, a1.now, fun w => ?_, fun _ p hp => ?_⟩
    · have d := a2.cut lo hi
      rw [cutAll w] at d
      exact q _ _ k13 j3 (.tup a1 d)
    · exact q _ _ (k13.trans (ksNew _ hp)) (G3.sameNew _ hp).j (dqTup G3.al hp (a2.cut lo hi))
theorem f_slL {tl th : TO} {lo hi : Option Int} (hK : K = c.K) (h : Vd c Γ te (.list xs)) (h1 : VO c Γ tl lo) (h2 : VO c Γ th hi) (l : xs.length ≤ sizeLine) : Vf c Γ (tSl (rSlL K) te tl th) (· = cutD xs lo hi) := fun O H σ G Q q => by
  subst hK
  refine h O H σ G _ fun v H1 k1 j1 p1 => ?_
  have G1 := G.go k1 j1
  refine h1 O H1 σ G1 _ fun H2 k2 j2 => ?_
  have G2 := G1.go k2 j2
  refine h2 O H2 σ G2 _ fun H3 k3 j3 => ?_
  have p3 := p1.go ((k2.trans k3).sub fun _ => dsM (O := O))
  have k13 := (k1.trans k2).trans k3
  cases p3 with
  | lst a1 a2 =>
    refine ⟨_, _, rfl, sqLRd a1.now, fun p hp => q p _ _ H3 _ rfl k13 j3 hp rfl ?_ (a2.cut lo hi)⟩
    unfold cutD
    rw [List.length_take, List.length_drop]
    omega
theorem f_revL (hK : K = c.K) (h : Vd c Γ te (.list xs)) (l : xs.length ≤ sizeLine) : Vf c Γ (tRevL K te) (· = xs.reverse) := fun O H σ G Q q => by
  subst hK
  refine h O H σ G _ fun v H1 k1 j1 p1 => ?_
  cases p1 with
  | lst a1 a2 => exact ⟨_, _, rfl, sqLRd a1.now, fun p hp => q p _ _ H1 _ rfl k1 j1 hp rfl (by rw [List.length_reverse]; exact l) a2.reverse⟩
end
end L2.Da


namespace L2.Da
open PySem L2 L2.Bv L2.Ts
/-! ### walks and comprehensions -/
/-- wi walks over xs -/
def VI (c : Cf) (Γ : Gm) (wi : TI) (xs : List PyData) : Prop := ∀ (O : Own) (H : Hp) (σ : St), Good c O H σ Γ → ∀ R : It → Hp → Prop,
  (∀ (Jt : It) (G : Hp → Prop) (Y : Nat → Hp → V → Hp → Prop) (H1 : Hp), KS c.M H H1 → c.J H1 → Walk Jt xs.length G Y → (∀ H2, KS (DS c O) H1 H2 → G H2) →
    (∀ (S : Addr → Prop) (i : Nat) (H2 : Hp) (v : V) (H3 : Hp), (∀ y, S y → DS c O y ∨ H1 y = none) → KS S H1 H2 → Al S H2 → i < xs.length → Y i H2 v H3 → Same H2 H3 ∧ ∃ x, xs[i]? = some x ∧ Dq c.K S H3 v x) → R Jt H1) → wi σ H R
theorem ksExt {S S0 : Addr → Prop} {H H' : Hp} (h : ∀ y, S y → S0 y ∨ H y = none) (k : KS S H H') : KS S0 H H' := fun x o n e => k x o (fun z => (h x z).elim n fun q => by rw [q] at e; cases e) e
section
variable {c : Cf} {Γ : Gm} {te ta tb : TE} {tt tu : TT} {tA : TA} {x y z : PyData} {e : Ent} {P P' : Own → Hp → V → Prop} {xs ys ds : List PyData} {b b' : Bool} {R : PyData → Prop} {K : PySem.W.Frag} {m n : Int} {s t : Str}
theorem vi_list (hK : K = c.K) (h : Vd c Γ te (.list xs)) : VI c Γ (iList K te) xs := fun O H σ G R q => by
  subst hK
  refine h O H σ G _ fun v H1 k1 j1 p1 => ?_
  cases p1 with
  | @lst a vs _ h1 h2 =>
    refine ⟨a, rfl, ⟨vs, sqLRd h1.now⟩, q _ (fun H2 => SqL c.K H2 a vs) (YAt vs) H1 k1 j1 (by rw [← h2.length]; exact walk_list) (fun H2 k => sqLRd (h1.go k).now) fun S i H2 v H3 hS k al hi y => ?_⟩
    obtain ⟨rfl, y⟩ := y
    obtain ⟨d, e1, e2⟩ := h2.get y
    exact ⟨Same.refl _, d, e1, Dq.mv (.ext hS k) d e2⟩
theorem vi_tup (hK : K = c.K) (h : Vd c Γ te (.tuple xs)) : VI c Γ (iTup K te) xs := fun O H σ G R q => by
  subst hK
  refine h O H σ G _ fun v H1 k1 j1 p1 => ?_
  cases p1 with
  | @tup a vs _ h1 h2 =>
    refine ⟨a, rfl, ⟨vs, h1.now⟩, q _ (fun H2 => SqT c.K H2 a vs) (YAt vs) H1 k1 j1 (by rw [← h2.length]; exact walk_tup) (fun H2 k => (h1.go k).now) fun S i H2 v H3 hS k al hi y => ?_⟩
    obtain ⟨rfl, y⟩ := y
    obtain ⟨d, e1, e2⟩ := h2.get y
    exact ⟨Same.refl _, d, e1, Dq.mv (.ext hS k) d e2⟩
theorem dqPair {S : Addr → Prop} {H2 H3 : Hp} {v : V} {xv yv : V} {x y : PyData} {T : Addr} (al : Al S H2) (h2 : H2 T = none) (h3 : H3 = upd H2 T (.tup [xv, yv])) (hv : v = .ref T) (dx : Dq K S H2 xv x) (dy : Dq K S H2 yv y) : Same H2 H3 ∧ Dq K S H3 v (.tuple [x, y]) := by
  subst h3 hv
  exact ⟨fun x o e => by rw [upd_ne (ne_of_none e h2)]; exact e, dqTup al h2 (.cons dx (.cons dy .nil))⟩
/-- data with their numbers -/
def numd (xs : List PyData) : List PyData := (List.range xs.length).map fun i => .tuple [.int (i : Nat), xs.getD i .none]
theorem numd_get {i : Nat} {x : PyData} (h : xs[i]? = some x) : (numd xs)[i]? = some (.tuple [.int (i : Nat), x]) := by
  unfold numd
  rw [List.getElem?_map, List.getElem?_range (List.getElem?_eq_some_iff.mp h).1]
  show some (PyData.tuple [.int (i : Nat), xs.getD i .none]) = _
  rw [List.getD_eq_getElem?_getD, h]
  rfl
theorem numd_len : (numd xs).length = xs.length := by
  unfold numd
  rw [List.length_map, List.length_range]
theorem vi_enumL (hK : K = c.K) (h : VA c Γ tA [.list xs]) : VI c Γ (iEnum K tA) (numd xs) := fun O H σ G R q => by
  subst hK
  refine h O H σ G _ fun us H1 k1 j1 p1 => ?_
  cases p1 with
  | cons d r =>
    cases r
    cases d with
    | @lst a vs _ h1 h2 =>
      refine ⟨a, vs, rfl, sqLRd h1.now, q _ (fun H2 => SqL c.K H2 a vs) _ H1 k1 j1 (by rw [numd_len, ← h2.length]; exact walk_enum) (fun H2 k => sqLRd (h1.go k).now) fun S i H2 v H3 hS k al hi y => ?_⟩
      obtain ⟨T, xv, yv, y1, y2, y3, y4, y5⟩ := y
      obtain ⟨d, e1, e2⟩ := h2.get y5
      cases y4
      obtain ⟨s, dd⟩ := dqPair (K := c.K) al y2 y3 y1 (Dq.int (i : Nat)) (Dq.mv (.ext hS k) d e2)
      exact ⟨s, _, numd_get e1, dd⟩
theorem vi_enumT (hK : K = c.K) (h : VA c Γ tA [.tuple xs]) : VI c Γ (iEnumT K tA) (numd xs) := fun O H σ G R q => by
  subst hK
  refine h O H σ G _ fun us H1 k1 j1 p1 => ?_
  cases p1 with
  | cons d r =>
    cases r
    cases d with
    | @tup a vs _ h1 h2 =>
      refine ⟨a, vs, rfl, h1.now, q _ (fun H2 => SqT c.K H2 a vs) _ H1 k1 j1 (by rw [numd_len, ← h2.length]; exact walk_enumT) (fun H2 k => (h1.go k).now) fun S i H2 v H3 hS k al hi y => ?_⟩
      obtain ⟨T, xv, yv, y1, y2, y3, y4, y5⟩ := y
      obtain ⟨d, e1, e2⟩ := h2.get y5
      cases y4
      obtain ⟨s, dd⟩ := dqPair (K := c.K) al y2 y3 y1 (Dq.int (i : Nat)) (Dq.mv (.ext hS k) d e2)
      exact ⟨s, _, numd_get e1, dd⟩
theorem vi_rng (h : VAw c Γ tA [.int n]) (h1 : -(2 ^ 62) ≤ n) (h2 : n < 2 ^ 62) : VI c Γ (iRng1 tA) ((List.range n.toNat).map fun i => .int (i : Nat)) := fun O H σ G R q => by
  refine h O H σ G _ fun us H1 k1 j1 p1 => ?_
  cases p1 with
  | cons d r =>
    cases r
    cases d
    have len : ((List.range n.toNat).map fun i => PyData.int (i : Nat)).length = n.toNat := by rw [List.length_map, List.length_range]
    refine ⟨n, rfl, h1, h2, q _ (fun _ => True) _ H1 k1 j1 (by rw [len]; exact walk_range) (fun _ _ => True.intro) fun S i H2 v H3 hS k al hi y => ?_⟩
    obtain ⟨rfl, rfl⟩ := y
    rw [len] at hi
    refine ⟨Same.refl _, .int (i : Nat), by rw [List.getElem?_map, List.getElem?_range hi]; rfl, ?_⟩
    show Dq c.K S _ (.int (0 + (i : Nat))) _
    rw [Int.zero_add]
    exact .int _
theorem vi_rng2 (h : VAw c Γ tA [.int m, .int n]) (h1 : -(2 ^ 62) ≤ m ∧ m < 2 ^ 62 ∧ -(2 ^ 62) ≤ n ∧ n < 2 ^ 62) : VI c Γ (iRng2 tA) ((List.range (n - m).toNat).map fun i => .int (m + (i : Nat))) := fun O H σ G R q => by
  refine h O H σ G _ fun us H1 k1 j1 p1 => ?_
  cases p1 with
  | cons d r =>
    cases r with
    | cons d2 r =>
      cases r
      cases d
      cases d2
      have len : ((List.range (n - m).toNat).map fun i => PyData.int (m + (i : Nat))).length = (n - m).toNat := by rw [List.length_map, List.length_range]
      refine ⟨m, n, rfl, h1, q _ (fun _ => True) _ H1 k1 j1 (by rw [len]; exact walk_range) (fun _ _ => True.intro) fun S i H2 v H3 hS k al hi y => ?_⟩
      obtain ⟨rfl, rfl⟩ := y
      rw [len] at hi
      exact ⟨Same.refl _, .int (m + (i : Nat)), by rw [List.getElem?_map, List.getElem?_range hi]; rfl, .int _⟩
def signs (s : Str) : List PyData := s.cps.toList.map fun p => .str ⟨#[p]⟩
theorem vi_str (h : Vw c Γ te (.str s)) : VI c Γ (iStr te) (signs s) := fun O H σ G R q => by
  refine h O H σ G _ fun v H1 k1 j1 p1 => ?_
  cases p1
  have len : (signs s).length = s.cps.size := by
    unfold signs
    rw [List.length_map, Array.length_toList]
  refine ⟨s, rfl, q _ (fun _ => True) _ H1 k1 j1 (by rw [len]; exact walk_str) (fun _ _ => True.intro) fun S i H2 v H3 hS k al hi y => ?_⟩
  obtain ⟨rfl, p, y1, rfl⟩ := y
  refine ⟨Same.refl _, .str ⟨#[p]⟩, ?_, .str _⟩
  unfold signs
  rw [List.getElem?_map, Array.getElem?_toList, y1]
  rfl
/-- pairs of things side by side -/
def zipd (xs ys : List PyData) : List PyData := (xs.zip ys).map fun p => .tuple [p.1, p.2]
/-! assignment of a walk's thing -/
/-- g stores a thing e a in the names ix: they become up Γ a -/
def Tg {α : Type} (c : Cf) (g : TG) (ix : List Nat) (e : α → PyData) (up : Gm → α → Gm) : Prop := ∀ (O : Own) (H : Hp) (σ : St) (Γ : Gm) (v : V) (a : α), Good c O H σ Γ → Dq c.K (DS c O) H v (e a) → ∀ Q : St → Hp → Prop, (∀ σ2, (∀ vs : List Nat, (∀ i ∈ ix, i ∈ vs) → wipe σ2 vs = wipe σ vs) → Good c O H σ2 (up Γ a) → Q σ2 H) → g v σ H Q
theorem tg_name {α : Type} {e : α → PyData} (i : Nat) : Tg c (gName i) [i] e fun Γ a => Γ.set i (some (.d (e a))) := fun O H σ Γ v a G d Q q => q _ (fun vs h => wipe_set (h i List.mem_cons_self)) (G.set True.intro d)
theorem tg_two {α : Type} {e f g : α → PyData} (hK : K = c.K) (he : ∀ a, e a = .tuple [f a, g a]) (i j : Nat) : Tg c (gTup K 2 (gCons (gName i) (gCons (gName j) gNil))) [i, j] e fun Γ a => (Γ.set i (some (.d (f a)))).set j (some (.d (g a))) := fun O H σ Γ v a G d Q q => by
  subst hK
  rw [he] at d
  cases d with
  | @tup p vs _ h1 h2 =>
    cases h2 with
    | cons d1 r =>
      cases r with
      | cons d2 r =>
        cases r
        exact ⟨p, _, rfl, h1.now, rfl, _, _, rfl, _, _, rfl, rfl, q _ (fun vs h => by rw [wipe_set (h j (by simp)), wipe_set (h i (by simp))]) ((G.set (e := .d _) True.intro d1).set (e := .d _) True.intro d2)⟩
theorem tg_three {α : Type} {e f g k : α → PyData} (hK : K = c.K) (he : ∀ a, e a = .tuple [f a, g a, k a]) (i j l : Nat) : Tg c (gTup K 3 (gCons (gName i) (gCons (gName j) (gCons (gName l) gNil)))) [i, j, l] e fun Γ a => ((Γ.set i (some (.d (f a)))).set j (some (.d (g a)))).set l (some (.d (k a))) := fun O H σ Γ v a G d Q q => by
  subst hK
  rw [he] at d
  cases d with
  | @tup p vs _ h1 h2 =>
    cases h2 with
    | cons d1 r =>
      cases r with
      | cons d2 r =>
        cases r with
        | cons d3 r =>
          cases r
          exact ⟨p, _, rfl, h1.now, rfl, _, _, rfl, _, _, rfl, _, _, rfl, rfl, q _ (fun vs h => by rw [wipe_set (h l (by simp)), wipe_set (h j (by simp)), wipe_set (h i (by simp))]) (((G.set (e := .d _) True.intro d1).set (e := .d _) True.intro d2).set (e := .d _) True.intro d3)⟩
/-- lists side by side -/
inductive Pr {α β : Type} (R : α → β → Prop) : List α → List β → Prop
  | nil : Pr R [] []
  | cons {a : α} {b : β} {as : List α} {bs : List β} : R a b → Pr R as bs → Pr R (a :: as) (b :: bs)
theorem Pr.length {α β : Type} {R : α → β → Prop} : ∀ {as : List α} {bs : List β}, Pr R as bs → as.length = bs.length
  | _, _, .nil => rfl
  | _, _, .cons _ h => congrArg (· + 1) h.length
theorem Pr.append {α β : Type} {R : α → β → Prop} : ∀ {as as' : List α} {bs bs' : List β}, Pr R as bs → Pr R as' bs' → Pr R (as ++ as') (bs ++ bs')
  | _, _, _, _, .nil, k => k
  | _, _, _, _, .cons a h, k => .cons a (h.append k)
theorem Pr.map {α β : Type} {f : α → β} : ∀ {as : List α} {bs : List β}, Pr (fun a b => b = f a) as bs → bs = as.map f
  | _, _, .nil => rfl
  | _, _, .cons a h => by rw [List.map_cons, a, h.map]
theorem Pr.get {α β : Type} {R : α → β → Prop} : ∀ {as : List α} {bs : List β} {i : Nat} {b : β}, Pr R as bs → bs[i]? = some b → ∃ a, as[i]? = some a ∧ R a b
  | _, _, _, _, .nil, e => by cases e
  | _, _, 0, _, .cons h _, e => by cases e; exact ⟨_, rfl, h⟩
  | _, _, i + 1, _, .cons _ h, e => h.get (i := i) e
/-- but for what stands at D -/
def del (H : Hp) (D : Addr) : Hp := fun b => if b = D then none else H b
theorem del_self {H : Hp} {D : Addr} : del H D D = none := if_pos rfl
theorem del_ne {H : Hp} {D b : Addr} (n : b ≠ D) : del H D b = H b := if_neg n
theorem upd_del {H : Hp} {D : Addr} {o : HO} (e : H D = some o) : H = upd (del H D) D o := by
  funext b
  by_cases n : b = D
  · rw [n, upd_same, e]
  · rw [upd_ne n, del_ne n]
theorem lc_rel {α : Type} {as : List α} {e : α → PyData} {ix vs : List Nat} {up : Gm → α → Gm} {wi : TI} {g : TG} {p : α → Bool} {Ra : α → PyData → Prop} (hi : VI c Γ wi (as.map e)) (l : as.length ≤ sizeLine) (hg : Tg c g ix e up) (hv : ∀ i ∈ ix, i ∈ vs)
    (ht : ∀ a ∈ as, Td c (up (wipeG Γ vs) a) tt (p a)) (he : ∀ a ∈ as, p a = true → Vr c (up (wipeG Γ vs) a) te (Ra a)) : Vf c Γ (tLc wi g tt te vs) fun ys => Pr Ra (as.filter p) ys := fun O H σ G Q q => by
  refine hi O H σ G _ fun Jt Gd Y H1 k1 j1 w hG hY D hD => ?_
  have G1 := G.go k1 j1
  have len : (as.map e).length = as.length := List.length_map _
  have no : ∀ (j : Nat) (ys : OwC), (wipeG Γ vs)[j]? ≠ some (some (.o D ys)) := (G1.wipe vs).noNew hD
  have mD : D ∈ O ++ [D] := List.mem_append_right _ List.mem_cons_self
  have G0 := (G1.alloc hD (.lst [])).wipe vs
  have nM : ¬ c.M D := fun z => c.alM H1 j1 D z hD
  have sb : ∀ x, ins c.M D x → DS c (O ++ [D]) x := fun x h => dsApp.mpr (h.imp (fun z => dsM z) id)
  refine lc_it w (fun i H' => KS (ins c.M D) H1 H' ∧ Good c (O ++ [D]) H' (wipe σ vs) (wipeG Γ vs) ∧ ∃ acc ys, H' D = some (.lst acc) ∧ DqAll c.K (DS c (O ++ [D])) H' acc ys ∧ Pr Ra ((as.take i).filter p) ys ∧ ys.length ≤ i) ⟨KS.new hD, G0, [], [], upd_same, .nil, .nil, Nat.le_refl _⟩ (fun i H' _ z => hG H' (ksExt (fun y hy => ?_) z.1)) ?_ ?_
  · rcases hy with h | h
    · exact .inl (dsM h)
    · exact .inr (by rw [h]; exact hD)
  · rintro i x H2 H3 lt ⟨ks, G2, acc, ys, e2, da, pr, le⟩ y
    obtain ⟨s, xd, ex, dx⟩ := hY (DS c (O ++ [D])) i H2 x H3 (fun y hy => (dsApp.mp hy).imp id fun h => by rw [h]; exact hD) (ks.sub sb) G2.al lt y
    rw [len] at lt
    rw [List.getElem?_map, List.getElem?_eq_getElem lt] at ex
    cases ex
    have ha : as[i] ∈ as := List.getElem_mem lt
    have G3 := G2.same s
    have tk : as.take (i + 1) = as.take i ++ [as[i]] := by
      rw [List.take_add_one, List.getElem?_eq_getElem lt]
      rfl
    refine hg _ H3 _ _ x as[i] G3 dx _ fun σ2 wσ G4 => ⟨by rw [wσ vs hv, wipe_idem], ?_⟩
    refine ht _ ha _ H3 σ2 G4 _ fun b H4 k4 j4 eb => ?_
    subst eb
    have G5 := G3.go k4 j4
    have k14 : KS (ins c.M D) H1 H4 := (ks.trans (KS.of s)).trans (k4.sub fun _ => insSub _)
    have e4 : H4 D = some (.lst acc) := k4 D _ nM (s D _ e2)
    have d4 : DqAll c.K (DS c (O ++ [D])) H4 acc ys := (da.go (KS.of s)).go (k4.sub fun _ => dsM)
    cases hp : p as[i] with
    | false =>
      refine iteF ⟨k14, G5, acc, ys, e4, d4, ?_, Nat.le_succ_of_le le⟩
      rw [tk, List.filter_append, List.filter_cons_of_neg (by rw [hp]; exact Bool.noConfusion), List.filter_nil, List.append_nil]
      exact pr
    | true =>
      refine iteT (he _ ha hp _ H4 σ2 (G4.go k4 j4) _ fun v H5 k5 j5 hv5 => ?_)
      obtain ⟨y, ry, dy⟩ := hv5
      have G6 := G5.go k5 j5
      have e5 : H5 D = some (.lst acc) := k5 D _ nM e4
      have kk : KS (ins c.M D) H5 (upd H5 D (.lst (acc ++ [v]))) := KS.atS (.inr rfl)
      refine ⟨acc, e5, ?_, (k14.trans (k5.sub fun _ => insSub _)).trans kk, G6.putD mD e5 True.intro no, acc ++ [v], ys ++ [y], upd_same, (((d4.go (k5.sub fun _ => dsM)).append (.cons dy .nil)).go (kk.sub sb)), ?_, ?_⟩
      · rw [da.length]
        omega
      · rw [tk, List.filter_append, List.filter_cons_of_pos hp, List.filter_nil]
        exact pr.append (.cons ry .nil)
      · rw [List.length_append]
        exact Nat.succ_le_succ le
  · rintro H' ⟨ks, G', acc, ys, e', da, pr, le⟩
    rw [len, List.take_length] at pr
    rw [len] at le
    have nDS : ¬ DS c O D := G1.al.off hD
    have mv : Mv (DS c (O ++ [D])) H' (DS c O) (del H' D) := fun H2 k x o n ex => by
      have ne : x ≠ D := fun z => n (dsApp.mpr (.inr z))
      exact k x o (fun z => n (dsApp.mpr (.inl z))) (by rw [del_ne ne]; exact ex)
    refine q D acc ys (del H' D) H' pr ?_ ?_ del_self (upd_del e') (by omega) (DqAll.mv mv ys da)
    · intro x o n ex
      have ne : x ≠ D := ne_of_none (k1 x o n ex) hD
      rw [del_ne ne]
      exact ks x o (fun z => z.elim n ne) (k1 x o n ex)
    · refine c.js H' _ G'.j fun x o ex h => ?_
      have ne : x ≠ D := fun z => by
        subst z
        rcases h with h | h
        · exact nDS (.inl h)
        · rw [e'] at ex
          cases ex
          exact h True.intro
      rw [del_ne ne]
      exact ex
end
end L2.Da


namespace L2.Da
open PySem L2 L2.Bv L2.Ts
section
variable {c : Cf} {Γ : Gm} {te ta tb : TE} {tt tu : TT} {tA : TA} {x y z : PyData} {e : Ent} {P P' : Own → Hp → V → Prop} {xs ys ds : List PyData} {b b' : Bool} {R : PyData → Prop} {K : PySem.W.Frag} {m n : Int} {s t : Str}
theorem Vf.mono {R R' : List PyData → Prop} (h : Vf c Γ te R) (k : ∀ xs, R xs → R' xs) : Vf c Γ te R' := fun O H σ G Q q => h O H σ G Q fun D vs xs H1 H' r => q D vs xs H1 H' (k xs r)
theorem Vf.eq {xs ys : List PyData} (h : Vf c Γ te (· = xs)) (k : xs = ys) : Vf c Γ te (· = ys) := k ▸ h
theorem Vd.eq (h : Vd c Γ te x) (k : x = y) : Vd c Γ te y := k ▸ h
theorem Td.eq (h : Td c Γ tt b) (k : b = b') : Td c Γ tt b' := k ▸ h
section
variable {α : Type} {as : List α} {ea : α → PyData} {ix vs : List Nat} {up : Gm → α → Gm} {wi : TI} {g : TG} {p : α → Bool} {f : α → PyData} {Ra : α → PyData → Prop}
theorem lc_f (hi : VI c Γ wi (as.map ea)) (l : as.length ≤ sizeLine) (hg : Tg c g ix ea up) (hv : ∀ i ∈ ix, i ∈ vs) (ht : ∀ a ∈ as, Td c (up (wipeG Γ vs) a) tt (p a)) (he : ∀ a ∈ as, p a = true → Vd c (up (wipeG Γ vs) a) te (f a)) :
    Vf c Γ (tLc wi g tt te vs) (· = (as.filter p).map f) := (lc_rel (Ra := fun a y => y = f a) hi l hg hv ht fun a h hp => (he a h hp).r rfl).mono fun ys pr => pr.map
theorem lc_m (hi : VI c Γ wi (as.map ea)) (l : as.length ≤ sizeLine) (hg : Tg c g ix ea up) (hv : ∀ i ∈ ix, i ∈ vs) (he : ∀ a ∈ as, Vd c (up (wipeG Γ vs) a) te (f a)) :
    Vf c Γ (tLc wi g tYes te vs) (· = as.map f) := (lc_f (p := fun _ => true) hi l hg hv (fun _ _ => t_yes) fun a h _ => he a h).eq (by rw [List.filter_eq_self.mpr fun _ _ => rfl])
theorem lc_mr (hi : VI c Γ wi (as.map ea)) (l : as.length ≤ sizeLine) (hg : Tg c g ix ea up) (hv : ∀ i ∈ ix, i ∈ vs) (he : ∀ a ∈ as, Vr c (up (wipeG Γ vs) a) te (Ra a)) :
    Vf c Γ (tLc wi g tYes te vs) (Pr Ra as) := (lc_rel (p := fun _ => true) hi l hg hv (fun _ _ => t_yes) fun a h _ => he a h).mono fun ys h => by
  rw [List.filter_eq_self.mpr fun _ _ => rfl] at h
  exact h
end
/-! ### statements -/
variable {O : Own} {H : Hp} {σ : St} {D : Ends} {t1 t2 : TS} {i : Nat}
theorem seq (h : t1 { D with nx := t2 D } σ H) : tSeq t1 t2 D σ H := h
theorem s_set (G : Good c O H σ Γ) (he : Vd c Γ te x) (k : ∀ σ' H', Good c O H' σ' (Γ.set i (some (.d x))) → D.nx σ' H') : tAsg te (gName i) D σ H :=
  he O H σ G _ fun v H' a j p => k _ _ ((G.go a j).set (e := .d x) True.intro p)
theorem s_setr (G : Good c O H σ Γ) (he : Vr c Γ te R) (k : ∀ x σ' H', R x → Good c O H' σ' (Γ.set i (some (.d x))) → D.nx σ' H') : tAsg te (gName i) D σ H :=
  he O H σ G _ fun v H' a j ⟨x, r, p⟩ => k x _ _ r ((G.go a j).set (e := .d x) True.intro p)
theorem s_sete (G : Good c O H σ Γ) (he : Ve c Γ te e) (f : e.fix) (k : ∀ σ' H', Good c O H' σ' (Γ.set i (some e)) → D.nx σ' H') : tAsg te (gName i) D σ H :=
  he O H σ G _ fun v H' a j p => k _ _ ((G.go a j).set f p)
theorem s_own {Rl : List PyData → Prop} (G : Good c O H σ Γ) (he : Vf c Γ te Rl) (k : ∀ L xs O' σ' H', Rl xs → L ∉ c.OB → (∀ y ∈ O, y ∈ O') → Good c O' H' σ' (Γ.set i (some (.o L (.l xs)))) → D.nx σ' H') : tAsg te (gName i) D σ H :=
  he O H σ G _ fun L vs xs H1 H' r a j hL e l d => by
    subst e
    have G1 := G.go a j
    have m : Mv (DS c O) H1 (DS c (O ++ [L])) (upd H1 L (.lst vs)) := fun H2 k => Mv.grow hL H2 (k.sub fun x z => dsApp.mp z)
    exact k L xs (O ++ [L]) _ _ r (G1.off0 hL).2.2.2 (fun y h => List.mem_append_left _ h) ((G1.alloc hL (.lst vs)).setO (List.mem_append_right _ List.mem_cons_self) ⟨vs, upd_same, DqAll.mv m xs d⟩ fun j ys _ => G1.noNew hL j ys)
theorem s_if (G : Good c O H σ Γ) (ht : Td c Γ tt b) (k1 : b = true → ∀ H', Good c O H' σ Γ → t1 D σ H') (k2 : b = false → ∀ H', Good c O H' σ Γ → t2 D σ H') : tIfS tt t1 t2 D σ H :=
  ht O H σ G _ fun d H' a j e => by
    subst e
    cases d with
    | true => exact k1 rfl H' (G.go a j)
    | false => exact k2 rfl H' (G.go a j)
theorem s_ret (G : Good c O H σ Γ) (he : Vd c Γ te x) (k : ∀ v H', KS c.M c.H0 H' → c.J H' → Dq c.K c.S H' v x → D.rt v H') : tRet te D σ H :=
  he O H σ G _ fun v H' a j p => k v H' (G.ks.trans a) j (p.sub fun _ h => .inl h)
theorem s_retr (G : Good c O H σ Γ) (he : Vr c Γ te R) (k : ∀ x v H', R x → KS c.M c.H0 H' → c.J H' → Dq c.K c.S H' v x → D.rt v H') : tRet te D σ H :=
  he O H σ G _ fun v H' a j ⟨x, r, p⟩ => k x v H' r (G.ks.trans a) j (p.sub fun _ h => .inl h)
theorem s_reto {L : Addr} (G : Good c O H σ Γ) (he : Ve c Γ te (.o L (.l xs))) (k : ∀ v H', KS c.M c.H0 H' → c.J H' → Dq c.K c.S H' v (.list xs) → D.rt v H') : tRet te D σ H :=
  he O H σ G _ fun v H' a j p => by
    obtain ⟨p1, rfl, vs, p2, p3⟩ := p
    exact k _ H' (G.ks.trans a) j (.lst (stRd p2 (G.off p1)) (p3.sub fun _ h => .inl h))
theorem s_drop (G : Good c O H σ Γ) (he : Vx c Γ te P) (k : ∀ H', Good c O H' σ Γ → D.nx σ H') : tDrop te D σ H :=
  he O H σ G _ fun v H' a j p => k H' (G.go a j)
theorem s_append {L : Addr} (hK : K = c.K) (G : Good c O H σ Γ) (hi : Γ[i]? = some (some (.o L (.l xs)))) (he : Vd c Γ te x) (l : xs.length < sizeLine) (k : ∀ H', Good c O H' σ (Γ.set i (some (.o L (.l (xs ++ [x]))))) → D.nx σ H') :
    tDrop (tBM K "list" rAppend (tVar i) (tCons te tNil)) D σ H := by
  subst hK
  obtain ⟨v, hv, hL, rfl, vs, e0, d0⟩ := G.at_ i _ hi
  refine ⟨_, hv, .inl ⟨rfl, _, SqL.of e0⟩, he O H σ G _ fun v H' a j p => ?_⟩
  have G1 := G.go a j
  obtain ⟨w, hw, _, ew, ws, e1, d1⟩ := G1.at_ i _ hi
  rw [hv] at hw
  cases hw
  exact ⟨L, ws, v, rfl, rfl, e1, by rw [d1.length]; exact l, k _ (G1.put hi fun kd => ⟨_, upd_same, (d1.append (.cons p .nil)).go kd⟩)⟩
/-- a loop over data -/
theorem s_for {α : Type} {as : List α} {ea : α → PyData} {ix : List Nat} {up : Gm → α → Gm} {wi : TI} {g : TG} {tbd : TS} (G : Good c O H σ Γ) (hi : VI c Γ wi (as.map ea)) (hg : ∀ H1 O1, Tg (c.at H1 O1) g ix ea up) (Iv : Nat → Gm → Prop) (h0 : Iv 0 Γ)
    (turn : ∀ (H1 : Hp) (j : Nat) (a : α) (O' : Own) (H' : Hp) (σ' : St) (Γj : Gm), as[j]? = some a → Iv j Γj → Good (c.at H1 O) O' H' σ' (up Γj a) → ∀ N : St → Hp → Prop, (∀ O2 σ2 H2 Γ2, Iv (j + 1) Γ2 → Good (c.at H1 O) O2 H2 σ2 Γ2 → N σ2 H2) → tbd { D with nx := N, ct := N, bk := D.nx } σ' H')
    (done : ∀ (O' : Own) (H' : Hp) (σ' : St) (Γn : Gm), Iv as.length Γn → Good c O' H' σ' Γn → D.nx σ' H') : tFor wi g tbd D σ H := by
  refine hi O H σ G _ fun Jt Gd Y H1 k1 j1 w hG hY => ?_
  have G1 := G.go k1 j1
  have len : (as.map ea).length = as.length := List.length_map _
  have gd : ∀ {O' σ' H' Γj}, Good (c.at H1 O) O' H' σ' Γj → KS (DS c O) H1 H' := fun G' => ksExt (fun y hy => hy.elim (fun h => .inl (.inl h)) fun h => (G'.ob y h).imp .inr id) G'.bs
  refine for_it w (fun j σ' H' => ∃ O' Γj, Iv j Γj ∧ Good (c.at H1 O) O' H' σ' Γj) ⟨O, Γ, h0, G1.into⟩ (fun j σ' H' _ ⟨O', Γj, _, G'⟩ => hG H' (gd G')) ?_ ?_
  · rintro j v σ' H2 H3 lt ⟨O', Γj, ij, G'⟩ y
    obtain ⟨s, xd, ex, dx⟩ := hY (DS c O') j H2 v H3 (fun y hy => hy.elim (fun h => .inl (.inl h)) fun h => (G'.ob y h).imp .inr id) G'.bs G'.al lt y
    rw [len] at lt
    rw [List.getElem?_map, List.getElem?_eq_getElem lt] at ex
    cases ex
    exact hg H1 O O' H3 σ' Γj v as[j] (G'.same s) dx _ fun σ2 _ G2 => turn H1 j as[j] O' H3 σ2 Γj (List.getElem?_eq_getElem lt) ij G2 _ fun O2 σ2 H2 Γ2 i2 G3 => ⟨O2, Γ2, i2, G3⟩
  · rintro σ' H' ⟨O', Γn, i', G'⟩
    rw [len] at i'
    exact done O' H' σ' Γn i' (G1.outof G')
/-! ### calls -/
/-- a def that changes nothing: data for data -/
def spP (K : PySem.W.Frag) (R : List PyData → PyData → Prop) : Sp := fun vs H Q _ => ∃ (S : Addr → Prop) (ds : List PyData) (d : PyData), Al S H ∧ DqAll K S H vs ds ∧ R ds d ∧ ∀ v H', Same H H' → Dq K S H' v d → Q v H'
theorem v_callP {Rp : List PyData → PyData → Prop} {E : XK} (hK : K = c.K) (h : VA c Γ tA ds) (r : Rp ds x) : Vd c Γ (tCall (spP K Rp) [] E tA) x := fun O H σ G Q q => by
  subst hK
  refine h O H σ G _ fun vs H1 k1 j1 p1 => ?_
  have G1 := G.go k1 j1
  refine ⟨DS c O, ds, x, G1.al, by rw [List.append_nil]; exact p1, r, fun v H' s dv => q v H' (k1.trans (KS.of s)) (G1.js' s) dv⟩
/-- the same by keywords alone -/
theorem v_callPK {Rp : List PyData → PyData → Prop} {E : XK} {gV : List V → List V → List V} {tk : TA} {ks : List PyData} (hK : K = c.K) (h : VA c Γ tk ks) (hg : ∀ (H : Hp) (S : Addr → Prop) (vs : List V), DqAll c.K S H vs ks → DqAll c.K S H (gV [] vs) ds) (r : Rp ds x) : Vd c Γ (tCallK (spP K Rp) gV E tNil tk) x := fun O H σ G Q q => by
  subst hK
  refine h O H σ G _ fun vs H1 k1 j1 p1 => ?_
  have G1 := G.go k1 j1
  exact ⟨DS c O, ds, x, G1.al, hg _ _ _ p1, r, fun v H' s dv => q v H' (k1.trans (KS.of s)) (G1.js' s) dv⟩
/-- a pure def's own account -/
def pureC (K : PySem.W.Frag) (S : Addr → Prop) (H : Hp) (al : Al S H) : Cf := ⟨K, S, noS, fun _ => True, H, H, [], fun _ h => h.elim, al, fun _ _ _ h => h.elim, fun _ _ _ _ => True.intro⟩
def startG (N : List Str) (ds : List PyData) : Gm := (ds.map fun d => some (Ent.d d)) ++ List.replicate (N.length - ds.length) none
theorem startG_get {N : List Str} {vs : List V} {K : PySem.W.Frag} {S : Addr → Prop} {H : Hp} (h : DqAll K S H vs ds) {i : Nat} {e : Ent} (hi : (startG N ds)[i]? = some (some e)) : ∃ v d, (start N vs)[i]? = some (some v) ∧ e = .d d ∧ Dq K S H v d := by
  unfold startG at hi
  by_cases lt : i < ds.length
  · rw [List.getElem?_append_left (by rw [List.length_map]; exact lt), List.getElem?_map, List.getElem?_eq_getElem lt] at hi
    have hi : some (some (Ent.d ds[i])) = some (some e) := hi
    cases hi
    obtain ⟨v, hv, dv⟩ := h.get' (List.getElem?_eq_getElem lt)
    have ltv := (List.getElem?_eq_some_iff.mp hv).1
    refine ⟨v, _, ?_, rfl, dv⟩
    unfold start
    rw [List.getElem?_append_left (by rw [List.length_map]; exact ltv), List.getElem?_map, hv]
    rfl
  · rw [List.getElem?_append_right (by rw [List.length_map]; omega), List.getElem?_replicate] at hi
    split at hi <;> cases hi
theorem startG_len {N : List Str} {vs : List V} {K : PySem.W.Frag} {S : Addr → Prop} {H : Hp} (h : DqAll K S H vs ds) : (start N vs).length = (startG N ds).length := by
  unfold start startG
  rw [List.length_append, List.length_append, List.length_map, List.length_map, List.length_replicate, List.length_replicate, h.length]
theorem pure_start {N : List Str} {vs : List V} {S : Addr → Prop} (al : Al S H) (h : DqAll K S H vs ds) : Good (pureC K S H al) [] H (start N vs) (startG N ds) := by
  refine ⟨startG_len h, fun i e hi => ?_, KS.refl, True.intro, fun x hx => (by cases hx), fun i j L xs ys h1 h2 => ?_, KS.refl, fun x hx => (by cases hx), fun x hx => by cases hx⟩
  · obtain ⟨v, d, a, rfl, b⟩ := startG_get (N := N) h hi
    refine ⟨v, a, Dq.sub (S := S) b fun x z => z.elim id fun w => by cases w⟩
  · obtain ⟨_, d, _, e1, _⟩ := startG_get (N := N) h h1
    cases e1
theorem pure_end {S : Addr → Prop} {al : Al S H} {Q : VK} (q : ∀ v H', Same H H' → Dq K S H' v x → Q v H') : ∀ v H', KS (pureC K S H al).M (pureC K S H al).H0 H' → (pureC K S H al).J H' → Dq (pureC K S H al).K (pureC K S H al).S H' v x → Q v H' := fun v H' k _ d => q v H' (KS.same k) d
/-! ### draws -/
structure HasDeal (c : Cf) (dl cl : Addr) : Prop where
  m1 : c.M dl
  m2 : c.M cl
  get : ∀ H, c.J H → DealAt H dl cl
  put : ∀ H H', c.J H → Keep dl cl H H' → DealAt H' dl cl → c.J H'
def isR (a : Addr) : Hp → V → Prop := fun _ v => v = .ref a
theorem HasDeal.ks {dl cl : Addr} (h : HasDeal c dl cl) {H H' : Hp} (k : Keep dl cl H H') : KS c.M H H' := k.ks h.m1 h.m2
theorem HasDeal.at {dl cl : Addr} (h : HasDeal c dl cl) (H1 : Hp) (O1 : Own) : HasDeal (c.at H1 O1) dl cl := ⟨h.m1, h.m2, h.get, h.put⟩
/-- a def that draws: R may tell more than one answer -/
def spD (K : PySem.W.Frag) (pre : List PyData → Prop) (R : List PyData → PyData → Prop) : Sp := fun vs H Q _ => ∃ (dl cl : Addr) (vs' : List V) (S : Addr → Prop) (ds : List PyData), vs = .ref dl :: vs' ∧ DealAt H dl cl ∧ S dl ∧ S cl ∧ Al S H ∧ DqAll K S H vs' ds ∧ pre ds ∧ ∀ v H' d, R ds d → DealAt H' dl cl → Keep dl cl H H' → Dq K S H' v d → Q v H'
theorem v_callD {pre : List PyData → Prop} {Rp : List PyData → PyData → Prop} {E : XK} {dl cl : Addr} (hd : HasDeal c dl cl) (hK : K = c.K) (hi : Γ[i]? = some (some (.p (isR dl)))) (h : VA c Γ tA ds) (r : pre ds) : Vr c Γ (tCall (spD K pre Rp) [] E (tCons (tVar i) tA)) (Rp ds) := fun O H σ G Q q => by
  subst hK
  obtain ⟨v, hv, se⟩ := G.at_ i _ hi
  obtain rfl : v = .ref dl := se.now
  refine ⟨_, hv, h O H σ G _ fun vs H1 k1 j1 p1 => ?_⟩
  have G1 := G.go k1 j1
  exact ⟨dl, cl, vs, DS c O, ds, by rw [List.append_nil], hd.get _ j1, .inl (c.sub _ hd.m1), .inl (c.sub _ hd.m2), G1.al, p1, r, fun v H' d rd dd kk dv => q v H' (k1.trans (hd.ks kk)) (hd.put _ _ j1 kk dd) ⟨d, rd, dv⟩⟩
/-- such a def's own account -/
def dealC (K : PySem.W.Frag) (S : Addr → Prop) (H : Hp) (al : Al S H) (dl cl : Addr) (h1 : S dl) (h2 : S cl) : Cf := ⟨K, S, dc dl cl, fun H => DealAt H dl cl, H, H, [], fun x h => h.elim (fun z => z ▸ h1) fun z => z ▸ h2, al, fun _ D => D.al, fun H H' D k => by
  obtain ⟨cs, m, a1, a2, a3⟩ := D.ex
  exact ⟨cs, m, k _ _ a1 (.inl h1), k _ _ a2 (.inl h2), a3⟩⟩
theorem dealC_has {K : PySem.W.Frag} {S : Addr → Prop} {H : Hp} {al : Al S H} {dl cl : Addr} {h1 : S dl} {h2 : S cl} : HasDeal (dealC K S H al dl cl h1 h2) dl cl := ⟨.inl rfl, .inr rfl, fun _ h => h, fun _ _ _ _ h => h⟩
def startD (N : List Str) (dl : Addr) (ds : List PyData) : Gm := (some (Ent.p (isR dl)) :: ds.map fun d => some (Ent.d d)) ++ List.replicate (N.length - (ds.length + 1)) none
theorem deal_start {N : List Str} {vs : List V} {S : Addr → Prop} {dl cl : Addr} (al : Al S H) (h1 : S dl) (h2 : S cl) (Dl : DealAt H dl cl) (h : DqAll K S H vs ds) : Good (dealC K S H al dl cl h1 h2) [] H (start N (.ref dl :: vs)) (startD N dl ds) := by
  refine ⟨?_, fun i e hi => ?_, KS.refl, Dl, fun x hx => (by cases hx), fun i j L xs ys h1 h2 => ?_, KS.refl, fun x hx => (by cases hx), fun x hx => by cases hx⟩
  · unfold start startD
    rw [List.length_append, List.length_append, List.length_map, List.length_cons, List.length_cons, List.length_map, List.length_replicate, List.length_replicate, h.length]
  · cases i with
    | zero =>
      have hi : some (some (Ent.p (isR dl))) = some (some e) := hi
      cases hi
      exact ⟨.ref dl, rfl, St'.pure (show isR dl H (.ref dl) from rfl)⟩
    | succ i =>
      have hi : (startG (List.replicate (N.length - 1) Str.empty) ds)[i]? = some (some e) := by
        unfold startG
        rw [List.length_replicate, Nat.sub_sub, Nat.add_comm 1]
        exact hi
      obtain ⟨v, d, a, rfl, b⟩ := startG_get h hi
      refine ⟨v, ?_, Dq.sub (S := S) b fun x z => z.elim id fun w => by cases w⟩
      unfold start at a ⊢
      rw [List.length_replicate, Nat.sub_sub, Nat.add_comm 1] at a
      exact a
  · cases i with
    | zero => cases h1
    | succ i =>
      have hi : (startG (List.replicate (N.length - 1) Str.empty) ds)[i]? = some (some (.o L xs)) := by
        unfold startG
        rw [List.length_replicate, Nat.sub_sub, Nat.add_comm 1]
        exact h1
      obtain ⟨_, d, _, e1, _⟩ := startG_get h hi
      cases e1
theorem deal_end {S : Addr → Prop} {al : Al S H} {dl cl : Addr} {h1 : S dl} {h2 : S cl} {Q : VK} (q : ∀ v H', DealAt H' dl cl → Keep dl cl H H' → Dq K S H' v x → Q v H') : ∀ v H', KS (dealC K S H al dl cl h1 h2).M (dealC K S H al dl cl h1 h2).H0 H' → (dealC K S H al dl cl h1 h2).J H' → Dq (dealC K S H al dl cl h1 h2).K (dealC K S H al dl cl h1 h2).S H' v x → Q v H' := fun v H' k j d => q v H' j (keepOf k) d
end
end L2.Da


namespace L2.Bv
open PySem PySem.Spec PyProof.Rows Bov
/-- a def by its body and its code's place, where no repr runs around -/
theorem okGc {P : Program} {w : World} {K : PySem.W.Frag} {mg : Str → Option Value} {base : Heap} {x qual : Str} {st : Stmt} {f : Addr} {N ps : List Str} {k : Nat} {sp : Sp} {oc kV doc pm cdv ct : Value} {od an : Option Addr} {osl : Array (Option Value)}
    (lk : K.lookup f = some ⟨oc, od, .func (PySem.W.fnOf x qual (defArgs st) (defBody st) (defScope st) .none kV doc pm an cdv ct), osl⟩) (hcd : PySem.W.codeIn K cdv qual = true) (S : FnScope N ps (defScope st)) (len : ∀ vs H Q E, sp vs H Q E → vs.length = ps.length)
    (body : ∀ (A : Around) (outer : List Env) (s : Shared) (H : Hp) (vs : List V) (Q : VK) (E : XK), Room k (A.deeper (envOfC qual (defScope st) s.heap.objs.size f cdv)) → A.guards = some [] → sp vs H Q E →
      ∃ t, PSs (cxOf CX0 P w K mg base N qual (defScope st) f cdv A outer s H E).nox (defBody st) t ∧ t { nx := fun _ H' => Q .non H', rt := Q } (start N vs) H) : FnG P w K mg base CX0 (k + 1) f (PySem.W.fnOf x qual (defArgs st) (defBody st) (defScope st) .none kV doc pm an cdv ct) ps sp := by
  refine ⟨len, fun A outer s H args us vs Q E hr hgd e0 hb r hsp => ?_⟩
  have same := len _ _ _ _ hsp
  have KX : K.In s.heap := e0.mod.kin.keeps fun b o e => (e0.bs b o e).1
  have lim : s.heap.NoLimit := e0.mod.nolimit.keeps fun b o e => (e0.bs b o e).1
  have kinds : ∀ y ∈ ps.zip us, (defScope st).names.lookup y.1 = some .local ∨
      ((defScope st).names.lookup y.1 = some .cell ∧ ((cellsFrom (s.heap.objs.size + 1) (defScope st).names []).lookup y.1).isSome = true) := fun ⟨n, v⟩ hy => by
    rcases S.par n (List.of_mem_zip hy).1 with z | z
    · exact .inl z
    · exact .inr ⟨z, PySem.W.cellsFrom_some _ _ _ (.inl z)⟩
  refine codeAny_call_function hr.depth (KX _ _ lk) rfl S.co S.gen rfl (PySem.W.codeRec_of KX hcd) (hb _ _ _ _ ?_)
  refine wpAny_newFunctionEnv_cells S.kind kinds fun env he s1 x => ?_
  subst he
  refine ⟨lim.keeps x.toInCall.keep, codeAny_func ?_⟩
  obtain ⟨t, ht, hq⟩ := body A outer s H vs Q E (hr.deeper _) hgd hsp
  have I : Inv (cxOf CX0 P w K mg base N qual (defScope st) f cdv A outer s H E) [] (start N vs) H s1 := inv_start S hr.hd e0 same r x
  refine wpAny_mono (ht.nox.run [] s1 (start N vs) H _ I hq) (fun fl s' hs => ?_) fun e s' hs => hs
  cases fl with
  | ret u =>
    obtain ⟨v, σ', H', J, rv, z⟩ := hs
    exact ⟨v, H', J.os, J.bare, J.base, J.hok, rv, z⟩
  | next =>
    obtain ⟨σ', H', J, z⟩ := hs
    exact ⟨V.non, H', J.os, J.bare, J.base, J.hok, rfl, z⟩
  | brk =>
    obtain ⟨_, _, _, z⟩ := hs
    exact False.elim z
  | cont =>
    obtain ⟨_, _, _, z⟩ := hs
    exact False.elim z
end L2.Bv


namespace L2.Da
open PySem L2 L2.Bv L2.Ts
/-! ### what stands, as a heap -/
/-- the heap without S -/
noncomputable def rest (S : Addr → Prop) (H : Hp) : Hp := fun a => @ite _ (S a) (Classical.propDecidable _) none (H a)
section
variable {K : PySem.W.Frag} {S : Addr → Prop} {H H' : Hp} {P : Hp → Prop}
theorem rest_no {a : Addr} (h : ¬ S a) : rest S H a = H a := @if_neg _ (Classical.propDecidable _) h _ _ _
theorem rest_get {a : Addr} {o : HO} (e : rest S H a = some o) : ¬ S a ∧ H a = some o := by
  by_cases s : S a
  · have z : rest S H a = none := @if_pos _ (Classical.propDecidable _) s _ _ _
    rw [z] at e
    cases e
  · rw [rest_no s] at e
    exact ⟨s, e⟩
theorem rest_ks : KS S H (rest S H) := fun x o n e => by rw [rest_no n]; exact e
theorem rest_same (k : KS S H H') : Same (rest S H) H' := fun x o e => let ⟨n, h⟩ := rest_get e; k x o n h
theorem St'.rest (h : St' S H P) : P (rest S H) := h _ rest_ks
theorem stRest (h : P (rest S H)) (m : ∀ H1 H2, P H1 → Same H1 H2 → P H2) : St' S H P := fun H2 k => m _ _ h (rest_same k)
theorem sqT_rest {a : Addr} {xs : List V} (h : SqT K (rest S H) a xs) : St' S H fun H' => SqT K H' a xs := stRest h fun _ _ h s => L2.Pc.sameT s h
mutual
theorem Dq.rest : ∀ {v : V} (d : PyData), Dp K (rest S H) v d → (∀ a xs, SqL K (Da.rest S H) a xs → Rd (Da.rest S H) a (.lst xs)) → Dq K S H v d
  | _, .none, h, _ => by cases h; exact .non
  | _, .bool b, h, _ => by cases h; exact .bl b
  | _, .int i, h, _ => by cases h; exact .int i
  | _, .str x, h, _ => by cases h; exact .str x
  | _, .list ds, h, c => by
    cases h with
    | lst h1 h2 => exact .lst (stRest (P := fun H' => Rd H' _ (.lst _)) (c _ _ h1) fun _ _ h s => h.elim (fun e => .inl (s _ _ e)) fun ⟨o, e⟩ => .inr ⟨o, s _ _ e⟩) (DqAll.rest ds h2 c)
  | _, .tuple ds, h, c => by
    cases h with
    | tup h1 h2 => exact .tup (sqT_rest h1) (DqAll.rest ds h2 c)
  | _, .dict kvs, h, _ => by cases h
theorem DqAll.rest : ∀ {vs : List V} (ds : List PyData), DpAll K (rest S H) vs ds → (∀ a xs, SqL K (Da.rest S H) a xs → Rd (Da.rest S H) a (.lst xs)) → DqAll K S H vs ds
  | _, [], h, _ => by cases h; exact .nil
  | _, d :: r, h, c => by
    cases h with
    | cons h1 h2 => exact .cons (Dq.rest d h1 c) (DqAll.rest r h2 c)
end
/-- data without lists -/
inductive NoL : PyData → Prop
  | non : NoL .none
  | bl (b : Bool) : NoL (.bool b)
  | int (i : Int) : NoL (.int i)
  | str (x : Str) : NoL (.str x)
  | tup {ds : List PyData} : (∀ d ∈ ds, NoL d) → NoL (.tuple ds)
mutual
theorem Dq.restN : ∀ {v : V} (d : PyData), NoL d → Dp K (rest S H) v d → Dq K S H v d
  | _, .none, _, h => by cases h; exact .non
  | _, .bool b, _, h => by cases h; exact .bl b
  | _, .int i, _, h => by cases h; exact .int i
  | _, .str x, _, h => by cases h; exact .str x
  | _, .list ds, n, h => by cases n
  | _, .tuple ds, n, h => by
    cases n with
    | tup n =>
      cases h with
      | tup h1 h2 => exact .tup (sqT_rest h1) (DqAll.restN ds n h2)
  | _, .dict kvs, n, h => by cases h
theorem DqAll.restN : ∀ {vs : List V} (ds : List PyData), (∀ d ∈ ds, NoL d) → DpAll K (rest S H) vs ds → DqAll K S H vs ds
  | _, [], _, h => by cases h; exact .nil
  | _, d :: r, n, h => by
    cases h with
    | cons h1 h2 => exact .cons (Dq.restN d (n d List.mem_cons_self) h1) (DqAll.restN r (fun x hx => n x (List.mem_cons_of_mem _ hx)) h2)
end
end
theorem noL_strs (xs : List Str) : NoL (.tuple (xs.map .str)) := .tup fun d h => by
  obtain ⟨x, _, rfl⟩ := List.mem_map.mp h
  exact .str x
theorem noL_ints (xs : List Int) : NoL (.tuple (xs.map .int)) := .tup fun d h => by
  obtain ⟨x, _, rfl⟩ := List.mem_map.mp h
  exact .int x
section
variable {c : Cf} {Γ : Gm} {te ta tb : TE} {tt tu : TT} {tA : TA} {x y z : PyData} {P : Own → Hp → V → Prop} {xs ys ds : List PyData} {b b' : Bool} {R : PyData → Prop} {K : PySem.W.Frag} {m n : Int} {s t : Str} {i : Nat}
/-- a field of an object that stays -/
theorem v_fld {C a dx : Addr} {fs : List (Str × V)} {Pk : Hp → V → Prop} {f : Str} {v : V} (hK : K = c.K) (hi : Γ[i]? = some (some (.p Pk))) (cl : Cls K C) (na : NoAttr K C f) (l : fs.lookup f = some v) (ins : ∀ H u, Pk H u → u = .ref a ∧ H a = some (.ins C dx fs)) (nl : NoL x) (dp : ∀ H u, Pk H u → Dp K H v x) : Vd c Γ (tFld K (tVar i) f) x := fun O H σ G Q q => by
  subst hK
  obtain ⟨u, hu, st⟩ := G.at_ i _ hi
  have st : St' (DS c O) H fun H' => Pk H' u := st
  obtain ⟨e1, e2⟩ := ins _ _ st.now
  exact ⟨u, hu, a, C, dx, fs, v, e1, e2, cl, na, l, q v H KS.refl G.j (Dq.restN x nl (dp _ _ (St'.rest st)))⟩
/-- by truth: a number -/
theorem t_truI (hK : K = c.K) (h : Vw c Γ te (.int n)) : Td c Γ (tTru K te) (n != 0) := fun O H σ G Q q => by
  refine h O H σ G _ fun v H' a j p => ⟨n != 0, ?_, q _ H' a j rfl⟩
  cases p
  rfl
/-- repr -/
def rReprK (K : PySem.W.Frag) : List V → Hp → VK → Prop := rRepr K
theorem reprK {X : Cx} (hK : X.K = K) (hg : X.A.guards = some []) (hu : X.A.units + 64 < cLine) : CallR X (.builtin "repr") (rRepr K) := hK ▸ callRepr hg hu
/-- data whose repr is told -/
structure Shn (d : PyData) : Prop where
  sh : d.showable = true
  nd : d.hasDict = false
  dp : d.depth ≤ 60
  sz : d.shown.length ≤ sizeLine
theorem v_repr (hK : K = c.K) (h : VAw c Γ tA [x]) (s : Shn x) : Vd c Γ (tCB (rRepr K) tA) (.str x.shown) := fun O H σ G Q q => by
  subst hK
  refine h O H σ G _ fun vs H1 k1 j1 p1 => ?_
  cases p1 with
  | cons d r =>
    cases r
    exact ⟨_, x, rfl, d.dp, s.sh, s.nd, s.dp, s.sz, q _ _ k1 j1 (.str _)⟩
/-- never: an error leaves the def -/
abbrev Vn (c : Cf) (Γ : Gm) (te : TE) : Prop := Vx c Γ te fun _ _ _ => False
theorem Vn.any (h : Vn c Γ te) : Vx c Γ te P := Vx.mono h fun _ _ _ z => z.elim
theorem vn_op2 {r : R2} (ha : Vw c Γ ta x) (hb : Vn c Γ tb) : Vn c Γ (tOp r ta tb) := fun O H σ G Q q => by
  refine ha O H σ G _ fun v H1 k1 j1 p1 => ?_
  exact hb O H1 σ (G.go k1 j1) _ fun u H2 k2 j2 z => z.elim
theorem vn_op1 {r : R2} (ha : Vn c Γ ta) : Vn c Γ (tOp r ta tb) := fun O H σ G Q q => ha O H σ G _ fun v H1 k1 j1 z => z.elim
theorem vn_call1 {sp : Sp} {dvs : List V} {E : XK} {tr : TA} (ha : Vw c Γ ta x) (hb : ∀ O H σ, Good c O H σ Γ → ∀ Q, tr σ H Q) : Vn c Γ (tCall sp dvs E (tCons ta tr)) := fun O H σ G Q q => ha O H σ G _ fun v H1 k1 j1 p1 => hb O H1 σ (G.go k1 j1) _
theorem vnA_cons1 (hb : Vn c Γ tb) {tr : TA} : ∀ O H σ, Good c O H σ Γ → ∀ Q, (tCons tb tr) σ H Q := fun O H σ G Q => hb O H σ G _ fun v H1 k1 j1 z => z.elim
theorem vnA_cons2 (ha : Vw c Γ ta x) {tr : TA} (hb : ∀ O H σ, Good c O H σ Γ → ∀ Q, tr σ H Q) : ∀ O H σ, Good c O H σ Γ → ∀ Q, (tCons ta tr) σ H Q := fun O H σ G Q => ha O H σ G _ fun v H1 k1 j1 p1 => hb O H1 σ (G.go k1 j1) _
theorem sn_ret {O : Own} {H : Hp} {σ : St} {D : Ends} (G : Good c O H σ Γ) (he : Vn c Γ te) : tRet te D σ H := he O H σ G _ fun v H' a j z => z.elim
theorem sn_set {O : Own} {H : Hp} {σ : St} {D : Ends} {g : TG} (G : Good c O H σ Γ) (he : Vn c Γ te) : tAsg te g D σ H := he O H σ G _ fun v H' a j z => z.elim
theorem bitN (m j : Nat) : Builtin.bitAnd (((m : Nat) : Int) / 2 ^ ((j : Nat) : Int).toNat) 1 = if m.testBit j = true then 1 else 0 := by
  have e : ((m : Nat) : Int) / 2 ^ ((j : Nat) : Int).toNat = ((m / 2 ^ j : Nat) : Int) := by
    rw [Int.toNat_natCast, Int.natCast_ediv, Int.natCast_pow]
    rfl
  have z := PyProof.Rows.bitAnd_pp (x := ((m / 2 ^ j : Nat) : Int)) (y := 1) (Int.natCast_nonneg _) (by decide)
  rw [e, z, Int.toNat_natCast]
  have t : m.testBit j = decide (m / 2 ^ j % 2 = 1) := by
    rw [Nat.testBit_eq_decide_div_mod_eq]
  rw [t]
  have a : m / 2 ^ j &&& (1 : Int).toNat = m / 2 ^ j % 2 := Nat.and_one_is_mod _
  rw [a]
  by_cases c : m / 2 ^ j % 2 = 1
  · rw [decide_eq_true c, if_pos rfl, c]
    rfl
  · rw [decide_eq_false c, if_neg Bool.false_ne_true]
    have z : m / 2 ^ j % 2 = 0 := by omega
    rw [z]
    rfl
/-- the bit at a place -/
theorem v_bit {wm k : Nat} (ha : Vw c Γ ta (.int (wm : Nat))) (hb : Vw c Γ tb (.int (k : Nat))) :
    Vd c Γ (tOp (rI0 fun i j => .int (Builtin.bitAnd i j)) (tOp (rI (fun _ j => 0 ≤ j) fun i j => .int (i / 2 ^ j.toNat)) ta tb) (tC (.int 1))) (.int (if wm.testBit k = true then 1 else 0)) := by
  have z := v_opS (c := c) (Γ := Γ) (r := rI0 fun i j => .int (Builtin.bitAnd i j)) (.int _) (.int _) (.int (Builtin.bitAnd (((wm : Nat) : Int) / 2 ^ ((k : Nat) : Int).toNat) 1))
    (v_opS (r := rI (fun _ j => 0 ≤ j) fun i j => .int (i / 2 ^ j.toNat)) (.int _) (.int _) (.int (((wm : Nat) : Int) / 2 ^ ((k : Nat) : Int).toNat)) ha hb fun H Q q => ⟨_, _, rfl, rfl, Int.natCast_nonneg _, q⟩).w (v_int 1).w fun H Q q => ⟨_, _, rfl, rfl, q⟩
  rw [bitN] at z
  exact z
/-- the test of a bit -/
theorem t_bit {wm k : Nat} (hK : K = c.K) (ha : Vw c Γ ta (.int (wm : Nat))) (hb : Vw c Γ tb (.int (k : Nat))) :
    Td c Γ (tTru K (tOp (rI0 fun i j => .int (Builtin.bitAnd i j)) (tOp (rI (fun _ j => 0 ≤ j) fun i j => .int (i / 2 ^ j.toNat)) ta tb) (tC (.int 1)))) (wm.testBit k) := (t_truI hK (v_bit ha hb).w).eq (by cases wm.testBit k <;> rfl)
end
end L2.Da


namespace L2.Da
open PySem L2 L2.Bv L2.Ts
/-! ### a def's start, any things handed over -/
inductive SeAll (c : Cf) (O : Own) (H : Hp) : List V → List Ent → Prop
  | nil : SeAll c O H [] []
  | cons {v : V} {vs : List V} {e : Ent} {es : List Ent} : Se c O H e v → SeAll c O H vs es → SeAll c O H (v :: vs) (e :: es)
theorem SeAll.length {c : Cf} {O : Own} {H : Hp} : ∀ {vs : List V} {es : List Ent}, SeAll c O H vs es → vs.length = es.length
  | _, _, .nil => rfl
  | _, _, .cons _ h => congrArg (· + 1) h.length
theorem SeAll.get {c : Cf} {O : Own} {H : Hp} : ∀ {vs : List V} {es : List Ent} {i : Nat} {e : Ent}, SeAll c O H vs es → es[i]? = some e → ∃ v, vs[i]? = some v ∧ Se c O H e v
  | _, _, _, _, .nil, e => by cases e
  | _, _, 0, _, .cons h _, e => by cases e; exact ⟨_, rfl, h⟩
  | _, _, i + 1, _, .cons _ h, e => h.get (i := i) e
theorem SeAll.ofDq {c : Cf} {H : Hp} : ∀ {vs : List V} {ds : List PyData}, DqAll c.K c.S H vs ds → SeAll c [] H vs (ds.map .d)
  | _, _, .nil => .nil
  | _, _, .cons a b => .cons (Dq.sub (S := c.S) a fun x z => z.elim id fun w => by cases w) (SeAll.ofDq b)
def startE (N : List Str) (es : List Ent) : Gm := es.map some ++ List.replicate (N.length - es.length) none
theorem startE_get {N : List Str} {es : List Ent} {i : Nat} {e : Ent} (h : (startE N es)[i]? = some (some e)) : es[i]? = some e := by
  unfold startE at h
  by_cases lt : i < es.length
  · rw [List.getElem?_append_left (by rw [List.length_map]; exact lt), List.getElem?_map, List.getElem?_eq_getElem lt] at h
    have h : some (some es[i]) = some (some e) := h
    rw [List.getElem?_eq_getElem lt]
    exact Option.some.inj h
  · rw [List.getElem?_append_right (by rw [List.length_map]; omega), List.getElem?_replicate] at h
    split at h <;> cases h
theorem gen_start {c : Cf} {H : Hp} {N : List Str} {vs : List V} {es : List Ent} (h0 : c.H0 = H) (hB : c.B = H) (hO : c.OB = []) (j : c.J H) (h : SeAll c [] H vs es) (fx : ∀ e ∈ es, e.fix) : Good c [] H (start N vs) (startE N es) := by
  refine ⟨?_, fun i e hi => ?_, by rw [h0]; exact KS.refl, j, fun x hx => (by cases hx), fun i j L xs ys h1 h2 => ?_, by rw [hB]; exact KS.refl, fun x hx => (by cases hx), fun x hx => by rw [hO] at hx; cases hx⟩
  · unfold start startE
    rw [List.length_append, List.length_append, List.length_map, List.length_map, List.length_replicate, List.length_replicate, h.length]
  · have e1 := startE_get hi
    obtain ⟨v, a, b⟩ := h.get e1
    refine ⟨v, ?_, b⟩
    have lt := (List.getElem?_eq_some_iff.mp a).1
    unfold start
    rw [List.getElem?_append_left (by rw [List.length_map]; exact lt), List.getElem?_map, a]
    rfl
  · exact (fx _ (List.mem_of_getElem? (startE_get h1))).elim
theorem FnOk.sp {P : Program} {w : World} {K : PySem.W.Frag} {mg : Str → Option Value} {base : Heap} {CX : CXT} {k : Nat} {f : Addr} {fd : FuncData} {ps : List Str} {sp sp' : Sp} (F : FnOk P w K mg base CX k f fd ps sp) (h : ∀ vs H Q E, sp' vs H Q E → sp vs H Q E) : FnOk P w K mg base CX k f fd ps sp' :=
  ⟨fun vs H Q E q => F.len vs H Q E (h _ _ _ _ q), fun A outer s H args us vs Q E hr he hb hv hs => F.run A outer s H args us vs Q E hr he hb hv (h _ _ _ _ hs)⟩
/-- what only walks up to the heap's growth is not changed -/
theorem dpMapS {K : PySem.W.Frag} {H : Hp} (xs : List Str) : DpAll K H (xs.map V.str) (xs.map .str) := DqAll.dp _ (dqStrs (S := noS) xs)
end L2.Da
namespace L2.K2
open PySem L2 L2.Bv L2.Pc L2.Ts L2.Da PyProof.Rows Bov LamX
abbrev nD (n : Nat) : PyData := .int ((n : Nat) : Int)
/-- a note as data -/
noncomputable def ntD (ns : List Nt) (i : Nat) : PyData := .tuple [.str (nameAt ns i), .str (handAt ns i), .tuple ((waitAt ns i).map .str)]
/-- a pact that stands, with all that it holds -/
structure PkW where
  x : Addr
  dx : Addr
  t1 : Addr
  t2 : Addr
  t3 : Addr
  dh : Addr
  tb : Addr
  pA : Addr
  rw : Addr
  nn : Addr
  un : Addr
  nx : Addr
  nm : Addr
  fs : List (Str × V)
  xs : List V
  kvh : List (Key × V)
  kvn : List (Key × V)
  wm : Nat
  zs : List Str
  rv : List V
  xv : List V
  ms : List Nat
  hs : List Str
  ns : List Nt
  rs : List Str
  ps : List Str
structure PkHolds (K : PySem.W.Frag) (C : Addr) (w : PkW) (H : Hp) : Prop where
  e : H w.x = some (.ins C w.dx w.fs)
  h1 : SqT K H w.t1 (w.hs.map V.str)
  h2 : SqT K H w.t2 w.xs
  nt : NotesAt K H w.xs w.ns
  h3 : SqT K H w.t3 (w.rs.map V.str)
  hA : SqT K H w.pA (w.ps.map V.str)
  hh : H w.dh = some (.dK w.kvh)
  hb : SqT K H w.tb (w.zs.map fun z => nV (numOf w.ns z))
  hr : SqT K H w.rw w.rv
  tr : TabFz H w.rv (rowsOf w.ns w.hs)
  hn : H w.nn = some (.dK w.kvn)
  hu : SqT K H w.un (w.ms.map nV)
  hx : SqT K H w.nx w.xv
  tx : TabAt K H w.xv (nextsOf (rowsOf w.ns w.hs) w.ms)
  hm : SqT K H w.nm ((w.ns.map (·.1)).map V.str)
structure PkFix (w : PkW) : Prop where
  f1 : w.fs.lookup ("hands" : Str) = some (.ref w.t1)
  f2 : w.fs.lookup ("notes" : Str) = some (.ref w.t2)
  f3 : w.fs.lookup ("ready" : Str) = some (.ref w.t3)
  fA : w.fs.lookup ("paper" : Str) = some (.ref w.pA)
  fh : w.fs.lookup ("hand_numbers" : Str) = some (.ref w.dh)
  mh : Made (fun i => Sum.inr (w.hs.getD i Str.empty)) nV w.hs.length w.kvh
  fw : w.fs.lookup ("whole" : Str) = some (nV w.wm)
  wb : ∀ i, w.wm.testBit i = true ↔ ∃ j, j < w.ns.length ∧ nameAt w.ns j ∈ w.ps ∧ Und w.ns i j
  fb : w.fs.lookup ("by_name" : Str) = some (.ref w.tb)
  pm : w.zs.Perm (w.ns.map (·.1))
  so : sortedS w.zs = true
  fr : w.fs.lookup ("rows" : Str) = some (.ref w.rw)
  fn : w.fs.lookup ("note_numbers" : Str) = some (.ref w.nn)
  mn : Made (fun i => Sum.inr (nameAt w.ns i)) nV w.ns.length w.kvn
  fu : w.fs.lookup ("unders" : Str) = some (.ref w.un)
  mo : MaskOk w.ns w.ms w.ns.length
  fx : w.fs.lookup ("nexts" : Str) = some (.ref w.nx)
  fm : w.fs.lookup ("names" : Str) = some (.ref w.nm)
  ok : PkOk w.hs w.ns w.rs w.ps
section
variable {K : PySem.W.Frag} {C x : Addr} {H H' : Hp} {w : PkW} {hs : List Str} {xs : List V} {ns : List Nt} {rs ps : List Str}
theorem pk_of (h : FullAt K C H x hs xs ns rs ps) (ok : PkOk hs ns rs ps) : ∃ w : PkW, w.x = x ∧ w.hs = hs ∧ w.xs = xs ∧ w.ns = ns ∧ w.rs = rs ∧ w.ps = ps ∧ PkFix w ∧ PkHolds K C w H := by
  obtain ⟨⟨dx, nn, rw, un, nx, nm, fs, kvs, rv, xv, ms, e, ⟨a1, a2, a3⟩, ⟨b1, b2, b3⟩, ⟨c1, c2, c3⟩, ⟨d1, d2, d3⟩, e1, e2⟩, ⟨dx', t1, t2, t3, dh, tb, pA, rw', fs', kvh, wm, zs, rv', e', ⟨A1, A2⟩, ⟨B1, B2, B3⟩, ⟨C1, C2⟩, ⟨D1, D2⟩, ⟨E1, E2, E3⟩, ⟨F1, F2⟩, ⟨G1, G2, G3, G4⟩, R1, R2, R3⟩⟩ := h
  rw [e] at e'
  cases e'
  rw [b1] at R1
  cases R1
  exact ⟨⟨x, dx, t1, t2, t3, dh, tb, pA, rw, nn, un, nx, nm, fs, xs, kvh, kvs, wm, zs, rv', xv, ms, hs, ns, rs, ps⟩, rfl, rfl, rfl, rfl, rfl, rfl, ⟨A1, B1, C1, D1, E1, E3, F1, F2, G1, G3, G4, b1, a1, a3, c1, c3, d1, e1, ok⟩, ⟨e, A2, B2, B3, C2, D2, E2, G2, R2, R3, a2, c2, d2, d3, e2⟩⟩
theorem PkHolds.full (h : PkHolds K C w H) (f : PkFix w) : FullAt K C H w.x w.hs w.xs w.ns w.rs w.ps := by
  refine ⟨⟨w.dx, w.nn, w.rw, w.un, w.nx, w.nm, w.fs, w.kvn, w.rv, w.xv, w.ms, h.e, ⟨f.fn, h.hn, f.mn⟩, ⟨f.fr, h.hr, h.tr.1, fun i v hv => let ⟨p, a, b⟩ := h.tr.2 i v hv; ⟨p, a, b.sq⟩⟩, ⟨f.fu, h.hu, f.mo⟩, ⟨f.fx, h.hx, h.tx⟩, f.fm, h.hm⟩,
    ⟨w.dx, w.t1, w.t2, w.t3, w.dh, w.tb, w.pA, w.rw, w.fs, w.kvh, w.wm, w.zs, w.rv, h.e, ⟨f.f1, h.h1⟩, ⟨f.f2, h.h2, h.nt⟩, ⟨f.f3, h.h3⟩, ⟨f.fA, h.hA⟩, ⟨f.fh, h.hh, f.mh⟩, ⟨f.fw, f.wb⟩, ⟨f.fb, h.hb, f.pm, f.so⟩, f.fr, h.hr, h.tr⟩⟩
theorem PkHolds.same (h : PkHolds K C w H) (s : Same H H') : PkHolds K C w H' := ⟨s _ _ h.e, sameT s h.h1, sameT s h.h2, h.nt.same s, sameT s h.h3, sameT s h.hA, s _ _ h.hh, sameT s h.hb, sameT s h.hr, h.tr.same s, s _ _ h.hn, sameT s h.hu, sameT s h.hx, h.tx.same s, sameT s h.hm⟩
theorem PkFix.names (f : PkFix w) {z : Str} : z ∈ w.zs ↔ ∃ i, i < w.ns.length ∧ nameAt w.ns i = z := by
  rw [f.pm.mem_iff, nameMap, List.mem_map]
  exact ⟨fun ⟨i, a, b⟩ => ⟨i, List.mem_range.mp a, b⟩, fun ⟨i, a, b⟩ => ⟨i, List.mem_range.mpr a, b⟩⟩
theorem PkFix.zlen (f : PkFix w) : w.zs.length = w.ns.length := by rw [f.pm.length_eq, List.length_map]
end
def isPk (K : PySem.W.Frag) (C : Addr) (w : PkW) : Hp → V → Prop := fun H v => v = .ref w.x ∧ PkHolds K C w H
/-- what a def of a pact answers -/
def spN (K : PySem.W.Frag) (C : Addr) (R : PkW → List PyData → PyData → Prop) : Sp := fun vs H Q _ => ∃ (S : Addr → Prop) (w : PkW) (vs' : List V) (ds : List PyData) (d : PyData), vs = .ref w.x :: vs' ∧ Al S H ∧ PkFix w ∧ St' S H (PkHolds K C w) ∧ DqAll K S H vs' ds ∧ R w ds d ∧ ∀ v H', Same H H' → Dq K S H' v d → Q v H'
/-- the same, where a name may be strange -/
def spX (K : PySem.W.Frag) (C CN : Addr) (R : PkW → List PyData → PyData → Prop) (R' : PkW → List PyData → Str → Prop) : Sp := fun vs H Q E => ∃ (S : Addr → Prop) (w : PkW) (vs' : List V) (ds : List PyData), vs = .ref w.x :: vs' ∧ Al S H ∧ PkFix w ∧ St' S H (PkHolds K C w) ∧ DqAll K S H vs' ds ∧ ((∃ d, R w ds d ∧ ∀ v H', Same H H' → Dq K S H' v d → Q v H') ∨ ∃ z, R' w ds z ∧ OddTold CN z H E)
theorem spN_X {K : PySem.W.Frag} {C CN : Addr} {R : PkW → List PyData → PyData → Prop} {R' : PkW → List PyData → Str → Prop} : ∀ vs H Q E, spN K C R vs H Q E → spX K C CN R R' vs H Q E0 := fun vs H Q E h => by
  obtain ⟨S, w, vs', ds, d, a1, a2, a3, a4, a5, a6, a7⟩ := h
  exact ⟨S, w, vs', ds, a1, a2, a3, a4, a5, .inl ⟨d, a6, a7⟩⟩
section
variable {c : Cf} {Γ : Gm} {te ta tb : TE} {tA tk : TA} {x y : PyData} {ds ks : List PyData} {K : PySem.W.Frag} {C CN : Addr} {w : PkW} {i : Nat} {R : PkW → List PyData → PyData → Prop} {R' : PkW → List PyData → Str → Prop} {E : XK}
theorem v_callN (hK : K = c.K) (hi : Γ[i]? = some (some (.p (isPk K C w)))) (F : PkFix w) (h : VA c Γ tA ds) (r : R w ds x) : Vd c Γ (tCall (spN K C R) [] E (tCons (tVar i) tA)) x := fun O H σ G Q q => by
  subst hK
  obtain ⟨v, hv, st⟩ := G.at_ i _ hi
  obtain rfl : v = .ref w.x := st.now.1
  refine ⟨_, hv, h O H σ G _ fun vs H1 k1 j1 p1 => ?_⟩
  have G1 := G.go k1 j1
  obtain ⟨v', hv', st'⟩ := G1.at_ i _ hi
  rw [hv] at hv'
  cases hv'
  refine ⟨DS c O, w, vs, ds, x, by rw [List.append_nil], G1.al, F, fun H2 k2 => (st' H2 k2).2, p1, r, fun v H' s dv => q v H' (k1.trans (KS.of s)) (G1.js' s) dv⟩
theorem v_callX (hK : K = c.K) (hi : Γ[i]? = some (some (.p (isPk K C w)))) (F : PkFix w) (h : VA c Γ tA ds) (r : R w ds x) : Vd c Γ (tCall (spX K C CN R R') [] E (tCons (tVar i) tA)) x := fun O H σ G Q q => by
  subst hK
  obtain ⟨v, hv, st⟩ := G.at_ i _ hi
  obtain rfl : v = .ref w.x := st.now.1
  refine ⟨_, hv, h O H σ G _ fun vs H1 k1 j1 p1 => ?_⟩
  have G1 := G.go k1 j1
  obtain ⟨v', hv', st'⟩ := G1.at_ i _ hi
  rw [hv] at hv'
  cases hv'
  refine ⟨DS c O, w, vs, ds, by rw [List.append_nil], G1.al, F, fun H2 k2 => (st' H2 k2).2, p1, .inl ⟨x, r, fun v H' s dv => q v H' (k1.trans (KS.of s)) (G1.js' s) dv⟩⟩
/-- a strange name -/
theorem v_callO {z : Str} (hK : K = c.K) (hi : Γ[i]? = some (some (.p (isPk K C w)))) (F : PkFix w) (h : VA c Γ tA ds) (r : R' w ds z) (ho : ∀ O H σ, Good c O H σ Γ → OddTold CN z H E) : Vn c Γ (tCall (spX K C CN R R') [] E (tCons (tVar i) tA)) := fun O H σ G Q q => by
  subst hK
  obtain ⟨v, hv, st⟩ := G.at_ i _ hi
  obtain rfl : v = .ref w.x := st.now.1
  refine ⟨_, hv, h O H σ G _ fun vs H1 k1 j1 p1 => ?_⟩
  have G1 := G.go k1 j1
  obtain ⟨v', hv', st'⟩ := G1.at_ i _ hi
  rw [hv] at hv'
  cases hv'
  exact ⟨DS c O, w, vs, ds, by rw [List.append_nil], G1.al, F, fun H2 k2 => (st' H2 k2).2, p1, .inr ⟨z, r, ho O H1 σ G1⟩⟩
theorem odd_go {z : Str} {H H' : Hp} (h : OddTold CN z H E) (s : Same H H') : OddTold CN z H' E := fun d H2 s2 e => h d H2 (s.trans s2) e
/-! its fields -/
section
variable (T : PcK K C) (F : PkFix w) (hK : K = c.K) (hi : Γ[i]? = some (some (.p (isPk K C w))))
include T F hK hi
theorem v_names : Vd c Γ (tFld K (tVar i) "names") (.tuple ((w.ns.map (·.1)).map .str)) := v_fld hK hi T.cl T.a5 F.fm (fun H u h => ⟨h.1, h.2.e⟩) (noL_strs _) fun H u h => .tup h.2.hm (dpMapS _)
theorem v_ready : Vd c Γ (tFld K (tVar i) "ready") (.tuple (w.rs.map .str)) := v_fld hK hi T.cl T.a3 F.f3 (fun H u h => ⟨h.1, h.2.e⟩) (noL_strs _) fun H u h => .tup h.2.h3 (dpMapS _)
theorem v_paper : Vd c Γ (tFld K (tVar i) "paper") (.tuple (w.ps.map .str)) := v_fld hK hi T.cl T.a4 F.fA (fun H u h => ⟨h.1, h.2.e⟩) (noL_strs _) fun H u h => .tup h.2.hA (dpMapS _)
theorem v_hands : Vd c Γ (tFld K (tVar i) "hands") (.tuple (w.hs.map .str)) := v_fld hK hi T.cl T.a1 F.f1 (fun H u h => ⟨h.1, h.2.e⟩) (noL_strs _) fun H u h => .tup h.2.h1 (dpMapS _)
theorem v_whole : Vd c Γ (tFld K (tVar i) "whole") (nD w.wm) := v_fld hK hi T.cl T.a12 F.fw (fun H u h => ⟨h.1, h.2.e⟩) (.int _) fun H u h => .int _
theorem v_unders : Vd c Γ (tFld K (tVar i) "unders") (.tuple (w.ms.map nD)) := v_fld hK hi T.cl T.a10 F.fu (fun H u h => ⟨h.1, h.2.e⟩) (.tup fun d h => by
  obtain ⟨x, _, rfl⟩ := List.mem_map.mp h
  exact .int _) fun H u h => .tup h.2.hu (dpNats _)
theorem v_byname : Vd c Γ (tFld K (tVar i) "by_name") (.tuple (w.zs.map fun z => nD (numOf w.ns z))) := v_fld hK hi T.cl T.a13 F.fb (fun H u h => ⟨h.1, h.2.e⟩) (.tup fun d h => by
  obtain ⟨x, _, rfl⟩ := List.mem_map.mp h
  exact .int _) fun H u h => .tup h.2.hb (by
  have z := dpNats (K := K) (H := H) (w.zs.map (numOf w.ns))
  rw [List.map_map, List.map_map] at z
  exact z)
theorem v_rows : Vd c Γ (tFld K (tVar i) "rows") (.tuple (w.hs.map fun h => .tuple ((rowI w.ns h).map nD))) := v_fld hK hi T.cl T.a8 F.fr (fun H u h => ⟨h.1, h.2.e⟩) (.tup fun d h => by
  obtain ⟨x, _, rfl⟩ := List.mem_map.mp h
  exact .tup fun d h => by
    obtain ⟨x, _, rfl⟩ := List.mem_map.mp h
    exact .int _) fun H u h => .tup h.2.hr (dpAllOf (by rw [h.2.tr.1]; unfold rowsOf; rw [List.length_map, List.length_map]) fun j v d hv hd => by
  obtain ⟨p, rfl, hp⟩ := h.2.tr.2 j v hv
  rw [List.getElem?_map] at hd
  cases e : w.hs[j]? with
  | none =>
    rw [e] at hd
    cases hd
  | some g =>
    rw [e] at hd
    cases hd
    have z : (rowsOf w.ns w.hs).getD j [] = rowI w.ns g := by
      unfold rowsOf rowI
      rw [List.getD_eq_getElem?_getD, List.getElem?_map, e]
      rfl
    rw [z] at hp
    exact .tup hp.sq (dpNats _))
theorem v_notes : Vd c Γ (tFld K (tVar i) "notes") (.tuple ((List.range w.ns.length).map (ntD w.ns))) := v_fld hK hi T.cl T.a2 F.f2 (fun H u h => ⟨h.1, h.2.e⟩) (.tup fun d h => by
  obtain ⟨x, _, rfl⟩ := List.mem_map.mp h
  exact .tup fun d h => by
    rcases List.mem_cons.mp h with rfl | h
    · exact .str _
    · rcases List.mem_cons.mp h with rfl | h
      · exact .str _
      · rw [List.mem_singleton.mp h]
        exact noL_strs _) fun H u h => .tup h.2.h2 (dpAllOf (by rw [h.2.nt.1, List.length_map, List.length_range]) fun j v d hv hd => by
  obtain ⟨p, q, rfl, h1, h2⟩ := h.2.nt.2 j v hv
  rw [List.getElem?_map] at hd
  cases e : (List.range w.ns.length)[j]? with
  | none =>
    rw [e] at hd
    cases hd
  | some g =>
    rw [e] at hd
    cases hd
    obtain ⟨lt, e⟩ := List.getElem?_eq_some_iff.mp e
    rw [List.getElem_range] at e
    subst e
    exact .tup h1 (.cons (.str _) (.cons (.str _) (.cons (.tup h2 (dpMapS _)) .nil))))
end
end
end L2.K2


namespace L2.Da
open PySem L2 L2.Bv L2.Ts
section
variable {c : Cf} {Γ : Gm} {te : TE}
/-- a comprehension that an error ends -/
theorem lc_never {α : Type} {as pre post : List α} {a0 : α} {e : α → PyData} {ix vs : List Nat} {up : Gm → α → Gm} {wi : TI} {g : TG} {Ra : α → PyData → Prop} (hi : VI c Γ wi (as.map e)) (l : as.length ≤ sizeLine) (hg : Tg c g ix e up) (hv : ∀ i ∈ ix, i ∈ vs)
    (sp : as = pre ++ a0 :: post) (he : ∀ a ∈ pre, Vr c (up (wipeG Γ vs) a) te (Ra a)) (hn : Vn c (up (wipeG Γ vs) a0) te) : Vn c Γ (tLc wi g tYes te vs) := fun O H σ G Q q => by
  refine hi O H σ G _ fun Jt Gd Y H1 k1 j1 w hG hY D hD => ?_
  have G1 := G.go k1 j1
  have len : (as.map e).length = as.length := List.length_map _
  have lp : pre.length < as.length := by
    rw [sp, List.length_append, List.length_cons]
    omega
  have no : ∀ (j : Nat) (ys : OwC), (wipeG Γ vs)[j]? ≠ some (some (.o D ys)) := (G1.wipe vs).noNew hD
  have mD : D ∈ O ++ [D] := List.mem_append_right _ List.mem_cons_self
  have G0 := (G1.alloc hD (.lst [])).wipe vs
  have nM : ¬ c.M D := fun z => c.alM H1 j1 D z hD
  have sb : ∀ x, ins c.M D x → DS c (O ++ [D]) x := fun x h => dsApp.mpr (h.imp (fun z => dsM z) id)
  refine ⟨fun i m H' => m = as.length - i ∧ i ≤ pre.length ∧ KS (ins c.M D) H1 H' ∧ Good c (O ++ [D]) H' (wipe σ vs) (wipeG Γ vs) ∧ ∃ acc, H' D = some (.lst acc) ∧ acc.length ≤ i, ⟨_, rfl, Nat.zero_le _, KS.new hD, G0, [], upd_same, Nat.le_refl _⟩, ?_⟩
  rintro i m H2 ⟨rfl, le, ks, G2, acc, e2, la⟩
  have lt : i < as.length := by omega
  have gd : Gd H2 := hG H2 (ksExt (fun y hy => hy.elim (fun h => .inl (dsM h)) fun h => .inr (by rw [h]; exact hD)) ks)
  refine .inr ⟨w.goes i H2 (by rw [len]; exact lt) gd, fun H' => KS (ins c.M D) H1 H' ∧ Good c (O ++ [D]) H' (wipe σ vs) (wipeG Γ vs) ∧ i < pre.length ∧ ∃ acc, H' D = some (.lst acc) ∧ acc.length ≤ i + 1, fun H' z => ⟨as.length - (i + 1), by omega, rfl, z.2.2.1, z.1, z.2.1, z.2.2.2⟩, fun x H3 y => ?_⟩
  obtain ⟨s, xd, ex, dx⟩ := hY (DS c (O ++ [D])) i H2 x H3 (fun y hy => (dsApp.mp hy).imp id fun h => by rw [h]; exact hD) (ks.sub sb) G2.al (by rw [len]; exact lt) (w.yields i H2 x H3 (by rw [len]; exact lt) gd y)
  rw [List.getElem?_map, List.getElem?_eq_getElem lt] at ex
  cases ex
  have G3 := G2.same s
  refine hg _ H3 _ _ x as[i] G3 dx _ fun σ2 wσ G4 => ⟨by rw [wσ vs hv, wipe_idem], yesT (iteT ?_)⟩
  by_cases z : i < pre.length
  · have ea : as[i] = pre[i] := by
      have t : as[i]? = pre[i]? := by rw [sp, List.getElem?_append_left z]
      rw [List.getElem?_eq_getElem lt, List.getElem?_eq_getElem z] at t
      exact Option.some.inj t
    have hm : as[i] ∈ pre := by
      rw [ea]
      exact List.getElem_mem z
    refine he _ hm _ H3 σ2 G4 _ fun v H5 k5 j5 _ => ?_
    have e5 : H5 D = some (.lst acc) := k5 D _ nM (s D _ e2)
    refine ⟨acc, e5, by omega, ((ks.trans (KS.of s)).trans (k5.sub fun _ => insSub _)).trans (KS.atS (.inr rfl)), (G3.go k5 j5).putD mD e5 True.intro no, z, acc ++ [v], upd_same, ?_⟩
    rw [List.length_append]
    exact Nat.succ_le_succ la
  · have ei : i = pre.length := by omega
    have ea : as[i] = a0 := by
      have t : as[i]? = some a0 := by
        rw [sp, List.getElem?_append_right (by omega), ei, Nat.sub_self]
        rfl
      rw [List.getElem?_eq_getElem lt] at t
      exact Option.some.inj t
    rw [ea] at G4
    exact hn _ H3 σ2 G4 _ fun v H5 k5 j5 z => z.elim
theorem vn_callB {r : List V → Hp → VK → Prop} {ta : TE} (h : Vn c Γ ta) : Vn c Γ (tCB r (tCons ta tNil)) := fun O H σ G Q q => h O H σ G _ fun v H1 k1 j1 z => z.elim
end
end L2.Da


namespace L2.Bv
open PySem PySem.Spec PyProof.Rows HandSPX
/-! ### an exception on its way out of a comprehension -/
section
variable {M : Model} {A : Around} {E : Value → Shared → Prop} {s : Shared} {env env' : Env} {outer l : List Env} {L a : Addr} {B : Heap} {Z : Obj → Prop}
theorem note_same (h : env.frame = env'.frame) {e : Value} : noteFrame e env = noteFrame e env' := by
  unfold noteFrame PySem.frameOf
  rw [h]
/-- a told exception, whatever its record says of the flight -/
structure Air (B : Heap) (l : List Env) (a : Addr) (Z : Obj → Prop) (h : Heap) : Prop where
  st : B.StaysIn h
  no : B.get? a = none
  fr : h.FunFrames B l
  tr : ∃ fl, TracedZ h B a Z fl
/-- it leaves the frame -/
theorem Air.leave {Q : Unit → Shared → Prop} (hZ : Steady Z) (hfr : A.frames = some (env :: outer)) (hf : env.frame = some L) (x : Air B (env :: outer) a Z s.heap)
    (hQ : ∀ h', FlyingZ B outer a Z h' → s.heap.UpToSlots h' → Q () { s with heap := h' }) : wpAny M A (leaving env (.ref a)) Q E s := by
  obtain ⟨st, no, fr, fl, tr⟩ := x
  obtain ⟨oe, vs, T, oT, ts, he, hz, hd, h1, nT, Te, hT, hdT, h3⟩ := id tr
  have down : ∀ {h2 : Heap}, h2.FunFrames B (env :: outer) → h2.FunFrames B outer := fun ⟨_, _, q⟩ => q
  unfold leaving noteFrame
  simp only [hf]
  refine wpAny_bind (wpAny_bind (wpAny_field he hd h1 ?_))
  rw [if_pos (show (Value.ref T != Value.none) = true from by simp)]
  refine wpAny_bind (wpAny_field hT hdT h3 ?_)
  by_cases same : (fl == rawInt L) = true
  · rw [if_pos same]
    exact wpAny_pure (setFlight_noneZ st fr tr fun h' k1 k2 k3 k4 => hQ h' ⟨k1, no, down k2, k3⟩ k4)
  · rw [if_neg same]
    have keep : ∀ b o, b ≠ T → s.heap.get? b = some o → (s.heap.update T (Obj.mapFields (·.setIfInBounds 3 Value.none))).get? b = some o := fun b o n e => (Heap.get?_update_other _ _ (Ne.symm n)).trans e
    have off : ∀ b o, s.heap.get? b = some o → (∀ vs, o.data ≠ .fields vs) → b ≠ T := fun b o hb nf q => by
      subst q
      rw [hT] at hb
      cases hb
      exact nf ts hdT
    refine wpAny_bind (wpAny_setField hT hdT (Array.getElem?_eq_some_iff.mp h3).1 ?_)
    refine wpAny_newEntryZ hZ hfr (fr.of_keeps fun b o hb nf => ⟨o, keep b o (off b o hb nf) hb, rfl⟩) hf (keep a oe (Ne.symm Te) he) (fun b o e => keep b o (fun q => by rw [q, nT] at e; cases e) (st b o e)) no hd (Array.getElem?_eq_some_iff.mp h1).1 hz fun h' hL => ?_
    obtain ⟨k1, k2, k3, k4⟩ := hL
    exact hQ h' ⟨k1, no, down k2, k3⟩ fun b o hb nf => k4 b o (keep b o (off b o hb nf) hb) nf
/-- something else changes that is no frame and not the ground's -/
theorem Air.other {h h' : Heap} {C : Addr} (x : Air B l a Z h) (hC : B.get? C = none) (nC : C ∉ l.filterMap (·.frame)) (nf : ∃ o, h.get? C = some o ∧ ∀ vs, o.data ≠ .fields vs) (sb : Heap.SameBut C h h') : Air B l a Z h' := by
  obtain ⟨st, no, fr, fl, oe, vs, T, oT, ts, he, hz, hd, h1, nT, Te, hT, hdT, h3⟩ := x
  obtain ⟨oC, eC, nfC⟩ := nf
  have go : ∀ b o, b ≠ C → h.get? b = some o → h'.get? b = some o := fun b o n e => (sb.2 b n).trans e
  have rcd : ∀ b o vs, h.get? b = some o → o.data = .fields vs → b ≠ C := fun b o vs e d q => by
    subst q
    rw [eC] at e
    cases e
    exact nfC vs d
  refine ⟨fun b o e => go b o (fun q => by rw [q, hC] at e; cases e) (st b o e), no, ?_, fl, oe, vs, T, oT, ts, go a oe (rcd a oe vs he hd) he, hz, hd, h1, nT, Te, go T oT (rcd T oT ts hT hdT) hT, hdT, h3⟩
  have all : ∀ l : List Env, C ∉ l.filterMap (·.frame) → h.FunFrames B l → h'.FunFrames B l := fun l => by
    induction l with
    | nil => exact fun _ _ => True.intro
    | cons e r ih =>
      rintro n ⟨k, ⟨L, o, f, hn, ho, nfo⟩, q⟩
      have nL : L ≠ C := fun z => n (List.mem_filterMap.mpr ⟨e, List.mem_cons_self, by rw [f, z]⟩)
      exact ⟨k, ⟨L, o, f, hn, go L o nL ho, nfo⟩, ih (fun z => n (by
        obtain ⟨e', m, w⟩ := List.mem_filterMap.mp z
        exact List.mem_filterMap.mpr ⟨e', List.mem_cons_of_mem _ m, w⟩)) q⟩
  exact all l nC fr
theorem Air.flying {h : Heap} (x : FlyingZ B l a Z h) : Air B l a Z h := ⟨x.1, x.2.1, x.2.2.1, _, x.2.2.2⟩
end
/-- what stands at C is no part of the ground -/
def sans (B : Heap) (C : Addr) : Heap := PySem.W.hideAll B [C]
theorem sans_none {B : Heap} {C : Addr} : (sans B C).get? C = none := PySem.W.hideAll_none _ List.mem_cons_self
theorem sans_get {B : Heap} {C b : Addr} {o : Obj} (e : B.get? b = some o) (n : b ≠ C) : (sans B C).get? b = some o := PySem.W.hideAll_get _ e (by simpa using n)
theorem of_sans {B : Heap} {C b : Addr} {o : Obj} (e : (sans B C).get? b = some o) : B.get? b = some o := PySem.W.of_hideAll _ e
theorem sans_no {B : Heap} {C b : Addr} (e : B.get? b = none) : (sans B C).get? b = none := by
  cases q : (sans B C).get? b with
  | none => rfl
  | some o => rw [of_sans q] at e; cases e
theorem sans_air {B h : Heap} {C a : Addr} {l : List Env} {Z : Obj → Prop} (x : Air B l a Z h) : Air (sans B C) l a Z h := by
  obtain ⟨st, no, fr, fl, oe, vs, T, oT, ts, he, hz, hd, h1, nT, r⟩ := x
  refine ⟨fun b o e => st b o (of_sans e), sans_no no, ?_, fl, oe, vs, T, oT, ts, he, hz, hd, h1, sans_no nT, r⟩
  have all : ∀ l : List Env, h.FunFrames B l → h.FunFrames (sans B C) l := fun l => by
    induction l with
    | nil => exact fun _ => True.intro
    | cons e r ih => exact fun ⟨k, ⟨L, o, f, hn, q⟩, w⟩ => ⟨k, ⟨L, o, f, sans_no hn, q⟩, ih w⟩
  exact all l fr
theorem sans_hok {P : Program} {w : World} {H : Hp} {B : Heap} {C : Addr} (h : HOk P w H B) (n : H C = none) : HOk P w H (sans B C) := fun b o q =>
  (h b o q).stay (fun c u hc r => sans_get r fun z => by
    subst z
    rcases hc with hc | hc
    · rw [hc, q] at n; cases n
    · rw [hc] at n; cases n) (fun _ r => r) fun _ _ r => r
section
variable {X : Cx}
/-- an error of a def that was called in a block of X: H1, s1 are what stood at the call -/
def OutOf (X : Cx) (W : XK) (C : Addr) (pins : List (Addr × Obj)) (σ : St) (u : Value) (s' : Shared) : Prop :=
  ∃ (H1 : Hp) (s1 : Shared) (m : Str → Option Value), Inv X pins σ H1 s1 ∧ s1.heap.Ns C m ∧ H1 C = none ∧ CX X.prog X.w X.stack H1 s1 W u s'
/-- it leaves the block, and then the def -/
theorem out_post {W E : XK} {C : Addr} {pins : List (Addr × Obj)} {σ : St} {u acc : Value} {s' : Shared} {ce : Env} {use : Option (Value → Sem Unit)} {Qf : Value → Shared → Prop} {E₁ : Value → Shared → Prop}
    (hs : X.stack = X.env :: X.outer) (hf : X.env.frame = some X.env.locals) (hex : X.ex = []) (hx : X.xe = fun e s' => wpAny (model X.prog X.w) X.A (leaving X.env e) (fun _ s'' => CX X.prog X.w X.outer X.H_0 X.s_0 E e s'') E₁ s')
    (hW : ∀ cls d H, W cls d H → E cls d H) (hce : ce.frame = X.env.frame) (nL : C ≠ X.env.locals) (nF : C ∉ X.fs) (n0 : X.s_0.heap.objs.size ≤ C) (h : OutOf X W C pins σ u s') :
    notedBy (model X.prog X.w) X.A ce (fun e s'' => compPost (model X.prog X.w) X.A X.xe use Qf acc C (.error e) s'') u s' := by
  obtain ⟨H1, s1, m, I, ns, hC, a, B, H', cls, d, rfl, fl, hok, ub, na, os, ag, hE⟩ := h
  have nS : C ∉ frs X.stack := fun z => (List.mem_cons.mp (I.stkSub C z)).elim nL nF
  have hfr : X.A.frames = some (X.env :: X.outer) := by rw [I.ok.frames, hs]
  obtain ⟨oC, es, ep, eC, dC, rC⟩ := id ns
  have bC : B.get? C = some oC := ub.keep C oC eC hC nS
  have nfC : ∀ vs, oC.data ≠ .fields vs := fun vs q => by rw [dC] at q; cases q
  have fl' : FlyingZ B (X.env :: X.outer) a (Zc cls d) s'.heap := hs ▸ fl
  show wpAny _ _ (noteFrame (.ref a) ce) _ _ s'
  rw [note_same hce]
  refine looks_onZ Zc.steady hfr hf fl' fun h2 held up2 => ?_
  have e2 : h2.get? C = some oC := held.1 C oC bC
  have fin : ∃ m, h2.Ns C m ∧ ∀ h3, Heap.SameBut C h2 h3 → ∀ cenv : Env, cenv.locals = C → wpAny (model X.prog X.w) X.A (PySem.passOn "comprehension.variables-let-go" (.ref a) cenv : Sem Value) (fun _ _ => False) X.xe { s' with heap := h3 } := by
    refine ⟨m, ⟨oC, es, ep, e2, dC, rC⟩, fun h3 sb cenv _ => ?_⟩
    have x2 : Air (sans B C) (X.env :: X.outer) a (Zc cls d) h2 := sans_air ⟨held.1, held.2.1, held.2.2.1, _, held.2.2.2⟩
    have x3 : Air (sans B C) (X.env :: X.outer) a (Zc cls d) h3 := x2.other sans_none (by rw [← hs]; exact nS) ⟨oC, e2, nfC⟩ sb
    obtain ⟨fl3, tr3⟩ := id x3.tr
    obtain ⟨oe, vs, T, oT, ts, he, hz, hd, h1, nT, Te, hT, hdT, hh3⟩ := id tr3
    unfold PySem.passOn
    refine wpAny_bind (wpAny_field he hd h1 ?_)
    rw [if_neg (show ¬ ((Value.ref T == Value.none) = true) from by simp)]
    refine wpAny_bind ((setFlight_anyZ (s := { s' with heap := h3 }) x3.st x3.fr tr3 fun h4 k1 k2 k3 k4 => ?_))
    refine wpAny_throw ?_
    rw [hx]
    refine Air.leave (B := sans B C) Zc.steady hfr hf ⟨k1, x3.no, k2, _, k3⟩ fun h5 f5 k5 => ?_
    have offx : ∀ b, b ∉ X.ex := fun b hb => by rw [hex] at hb; cases hb
    have old : ∀ b o, X.s_0.heap.get? b = some o → b ≠ C := fun b o e z => by
      have q := Heap.lt_size e
      rw [z] at q
      exact Nat.lt_irrefl _ (Nat.lt_of_lt_of_le q n0)
    have out : ∀ b o, X.s_0.heap.get? b = some o → b ∉ X.fs → b ∉ frs X.stack := fun b o e n z => by
      rcases List.mem_cons.mp (I.stkSub b z) with q | q
      · have q2 := Heap.lt_size e
        have q3 := I.ok.above
        rw [q] at q2
        exact Nat.lt_irrefl _ (Nat.lt_of_lt_of_le q2 q3)
      · exact n q
    have inn : ∀ b, b ∈ X.fs → b ∈ frs X.stack := fun b hb => by
      rw [hs]
      unfold frs
      rw [List.filterMap_cons, hf]
      exact List.mem_cons_of_mem _ hb
    refine ⟨a, sans B C, H', cls, d, rfl, f5, sans_hok hok (ub.free C oC eC hC), ⟨fun b o e n hb => sans_get (ub.keep b o (I.base.keep b o e n hb (offx b)) (I.base.free b o e n (offx b)) (out b o e hb)) (old b o e), fun b o e hb => ?_,
      fun b o e n => ?_, fun b o e hb => ?_, fun b xs e => ub.tups b xs (I.base.tups b xs e), fun b o xs e => ub.frzs b o xs (I.base.frzs b o xs e), fun b ps e => ?_⟩, na, os.trans I.os, ag, hW _ _ _ hE⟩
    · obtain ⟨_, o0, e0, nf⟩ := I.ok.funs.mem hb
      rw [e] at e0
      cases e0
      obtain ⟨sl1, e1⟩ := I.base.slot b o e (I.ok.frf b hb) hb (offx b)
      obtain ⟨sl2, e2⟩ := ub.slot b _ e1 (inn b hb)
      obtain ⟨sl3, e3⟩ := up2 b _ e2 nf
      have e4 := (sb.2 b (fun z => nF (z ▸ hb))).trans e3
      obtain ⟨sl5, e5⟩ := k4 b _ e4 nf
      obtain ⟨sl6, e6⟩ := k5 b _ e5 nf
      exact ⟨sl6, e6⟩
    · obtain ⟨o', e'⟩ := I.base.there b o e (offx b)
      exact ub.free b o' e' (I.base.free b o e n (offx b))
    · obtain ⟨o', e'⟩ := I.base.there b o e (offx b)
      obtain ⟨o2, e2⟩ := ub.there b o' e' (out b o e hb)
      exact ⟨o2, sans_get e2 (old b o e)⟩
    · obtain ⟨m1, e1⟩ := I.base.tbls b ps e
      obtain ⟨m2, e2⟩ := ub.tbls b _ e1
      exact ⟨m1 ++ m2, by rw [e2, Array.append_assoc]⟩
  cases use <;> exact fin
end
end L2.Bv


namespace L2.Bv
open PySem PySem.Spec PyProof.Rows HandSPX
section
variable {X : Cx}
/-- a block's context, its errors told by Z -/
abbrev bz (X : Cx) (s : Shared) (H : Hp) (scope : Scope) (ce : Env) (fp : List Addr) (Z : Value → Shared → Prop) : Cx := (X.blk s H scope ce fp).wish Z
/-- what the parts of a block Y may lean on: the def's own state at σ; an error of a def that they call is taken -/
structure InX (X Y : Cx) (W : XK) (σ : St) : Prop where
  back : ∀ (pins' : List (Addr × Obj)) (σ' : St) (H' : Hp) (s' : Shared), Inv Y pins' σ' H' s' → ∃ pins, Inv X pins σ H' s'
  pass : ∀ (pins' : List (Addr × Obj)) (σ' : St) (H' : Hp) (s' : Shared) (e : Value) (s'' : Shared), Inv Y pins' σ' H' s' → CX X.prog X.w X.stack H' s' W e s'' → Y.xe e s''
/-- the state of a block's loop -/
structure Lp (Y : Cx) (σ : St) (fp : List Addr) (tn : Nat → Heap → Prop) (i : Nat) (H : Hp) (s : Shared) : Prop where
  inv : Inv Y [] σ H s
  tn : tn i s.heap
  fr : ∀ b ∈ fp, H b = none
theorem Lp.fp {X : Cx} {s s3 : Shared} {H H3 : Hp} {scope : Scope} {ce : Env} {fp : List Addr} {Z : Value → Shared → Prop} {σ : St} {pins : List (Addr × Obj)} (hp : pins = []) (I : Inv (bz X s3 H3 scope ce fp Z) pins σ H s) (n : ∀ b ∈ fp, H b = none) : ∀ b ∈ fp, FpOk (bz X s3 H3 scope ce fp Z) pins H b := fun b hb => by
  subst hp
  exact ⟨n b hb, (I.ok.exf b hb).1, I.ok.exfs b hb, .inl hb, fun x c e => (I.ok.exf b hb).2 x c e, fun p z => nomatch (show p ∈ ([] : List (Addr × Obj)) from z)⟩
/-- [elt for tg in iter if ..], out of which an error may leave -/
theorem pe_lcZ {elt tg iter : Expr} {ifs : List Expr} {scope : Scope} {own : List (Str × Nat)} {pos : Pos} {wi : TI} {g : TG} {tt : St → TT} {te : St → TE} {W : XK}
    (hc : X.calm = true) (hN : X.N.Nodup)
    (hz : ∀ (C : Addr) (pins : List (Addr × Obj)) (σ : St) (u acc : Value) (s' : Shared) (ce : Env) (Qf : Value → Shared → Prop), ce.frame = X.env.frame → C ≠ X.env.locals → C ∉ X.fs → X.s_0.heap.objs.size ≤ C → OutOf X W C pins σ u s' →
      notedBy (model X.prog X.w) X.A ce (fun e s'' => compPost (model X.prog X.w) X.A X.xe none Qf acc C (.error e) s'') u s')
    (hi : PI X tg iter wi) (ok : BlkOk X.N X.env.scope scope own)
    (hg : ∀ (s : Shared) (H : Hp) (C : Addr) (cl : List (Str × Addr)) (fp : List Addr) (Z : Value → Shared → Prop), PG (bz X s H scope (compEnvC scope cl C X.env) fp Z) tg g)
    (ht : ∀ (s : Shared) (H : Hp) (C : Addr) (cl : List (Str × Addr)) (fp : List Addr) (Z : Value → Shared → Prop) (σ : St), InX X (bz X s H scope (compEnvC scope cl C X.env) fp Z) W σ → PTs (bz X s H scope (compEnvC scope cl C X.env) fp Z) ifs (tt σ))
    (he : ∀ (s : Shared) (H : Hp) (C : Addr) (cl : List (Str × Addr)) (fp : List Addr) (Z : Value → Shared → Prop) (σ : St), InX X (bz X s H scope (compEnvC scope cl C X.env) fp Z) W σ → PE (bz X s H scope (compEnvC scope cl C X.env) fp Z) elt (te σ))
    (hso : ∀ x, foldedSetIterable iter X.env x = pure x := by intro _; rfl) : PE X (.ListComp elt [⟨tg, iter, ifs, 0⟩] scope pos) (fun σ H Q => tLc wi g (tt σ) (te σ) (own.map (·.2)) σ H Q) := by
  refine ⟨fun pins s σ H Q I h => ?_⟩
  have cl0 : ∀ y ∈ scope.names, y.2 = .free → ∃ c, X.env.cells.lookup y.1 = some c := fun y hy e => I.ok.has _ (ok.free y hy e)
  rw [eval_ListComp]
  refine wpAny_comprehension_free rfl hso (closure_ok cl0) ok.kind (fun y hy e => by rw [ok.uniq y hy, e]) (thn (hi.run pins s σ H _ I h) fun xv s1 h1 => thn h1 fun itv s2 h2 => ?_)
  obtain ⟨it, fp, tn, J, H2, rfl, I2, T, t2, f2, q⟩ := h2
  obtain ⟨W0, ⟨m0, w0⟩, turn⟩ := q s2.heap.objs.size (I2.hok.fresh (Nat.le_refl _))
  refine wpAny_newObj_type (newEnv_comp ?_) (Nat.zero_le _)
  -- the new list stands at D
  obtain ⟨D, hD⟩ : ∃ D, D = s2.heap.objs.size := ⟨_, rfl⟩
  obtain ⟨s3, h3⟩ : ∃ s3 : Shared, s3 = { s2 with heap := s2.heap.push { cls := .type "list", data := .seq ([] : List Value).toArray } } := ⟨_, rfl⟩
  obtain ⟨H3, eH⟩ : ∃ H3 : Hp, H3 = upd H2 D (.lst []) := ⟨_, rfl⟩
  have k3 : ∀ b o, s2.heap.get? b = some o → s3.heap.get? b = some o := fun b o e => by
    rw [h3]
    exact Heap.get?_push_of_some _ e
  have I3 : Inv X pins σ H3 s3 := by
    have new : s3.heap.get? D = some { cls := .type "list", data := .seq ([] : List Value).toArray } := by
      rw [h3, hD]
      exact Heap.get?_push_size _ rfl
    have J3 := I2.laid (t' := s2.toks) (h' := s3.heap) (a := D) (o := .lst []) k3 (Nat.le_of_eq hD.symm) ⟨Nat.zero_le _, [], 0, .nil, new⟩
    rw [eH, h3]
    rw [h3] at J3
    exact J3
  have f3 : ∀ b ∈ fp, FpOk X pins H3 b ∧ b < s3.heap.objs.size := fun b hb => by
    obtain ⟨o, e, _⟩ := T.obj _ _ t2 b hb
    have lt := Heap.lt_size e
    refine ⟨⟨?_, (f2 b hb).2⟩, Heap.lt_size (k3 b o e)⟩
    rw [eH, upd_ne (by rw [hD]; exact Nat.ne_of_lt lt)]
    exact (f2 b hb).1
  have t3 : tn 0 s3.heap := T.keep _ _ _ t2 fun b _ o e => k3 b o e
  -- the block's frame stands at C
  obtain ⟨C, hC⟩ : ∃ C, C = s3.heap.objs.size := ⟨_, rfl⟩
  obtain ⟨cl, hcl⟩ : ∃ cl, cl = cellsFrom (s3.heap.objs.size + 1) scope.names (cloFrom X.env.cells scope.names []) := ⟨_, rfl⟩
  obtain ⟨ce, hce⟩ : ∃ ce, ce = compEnvC scope cl C X.env := ⟨_, rfl⟩
  obtain ⟨s4, h4⟩ : ∃ s4 : Shared, s4 = { s3 with heap := pushCells (s3.heap.push { cls := .type "dict", data := .dict #[] }) scope.names } := ⟨_, rfl⟩
  have cL : ce.locals = C := by rw [hce]; rfl
  have cF : ce.frame = X.env.frame := by rw [hce]; rfl
  have k4 : ∀ b o, s3.heap.get? b = some o → s4.heap.get? b = some o := fun b o e => by
    rw [h4]
    exact pushCells_keeps _ _ _ _ (Heap.get?_push_of_some _ e)
  obtain ⟨Z, hZ⟩ : ∃ Z : Value → Shared → Prop, Z = OutOf X W C pins σ := ⟨_, rfl⟩
  have I4 : Inv (bz X s3 H3 scope ce fp Z) [] (wipe σ (own.map (·.2))) H3 s4 := by
    have J4 := (block_start I3 ok hN f3).wish Z
    rw [hce, hcl, hC, h4]
    exact J4
  have nL : C ≠ X.env.locals := by rw [hC]; exact Nat.ne_of_gt I3.lt
  have nF : C ∉ X.fs := by rw [hC]; exact I3.nofs (Nat.le_refl _)
  have n0 : X.s_0.heap.objs.size ≤ C := by rw [hC]; exact I3.sz
  -- back in the def
  have home : ∀ {pins' : List (Addr × Obj)} {σ' : St} {H' : Hp} {s' : Shared}, Inv (bz X s3 H3 scope ce fp Z) pins' σ' H' s' → Inv X pins σ H' s' := fun {pins' σ' H' s'} I' =>
    I3.call' (ch := fp) I'.os I'.base I'.hok I'.bare fun b hb => ⟨(f3 b hb).1.2.2.2.1, (f3 b hb).1.2.1, (f3 b hb).1.2.2.2.2.1, (f3 b hb).1.2.2.2.2.2⟩
  have ns : ∀ {pins' : List (Addr × Obj)} {σ' : St} {H' : Hp} {s' : Shared}, Inv (bz X s3 H3 scope ce fp Z) pins' σ' H' s' → (∃ m, s'.heap.Ns C m) ∧ H' C = none := fun {pins' σ' H' s'} I' => by
    obtain ⟨m, hn, _⟩ := I'.loc
    have z : H' ce.locals = none := I'.free
    have hn : s'.heap.Ns ce.locals m := hn
    rw [cL] at z hn
    exact ⟨⟨m, hn⟩, z⟩
  have inx : InX X (bz X s3 H3 scope ce fp Z) W σ := ⟨fun pins' σ' H' s' I' => ⟨pins, home I'⟩, fun pins' σ' H' s' e s'' I' c => by
    obtain ⟨⟨m, hn⟩, z⟩ := ns I'
    show Z e s''
    rw [hZ]
    exact ⟨H', s', m, home I', hn, z, c⟩⟩
  have PGx : PG (bz X s3 H3 scope ce fp Z) tg g := by rw [hce]; exact hg s3 H3 C cl fp Z
  have PTx : PTs (bz X s3 H3 scope ce fp Z) ifs (tt σ) := by rw [hce] at inx ⊢; exact ht s3 H3 C cl fp Z σ inx
  have PEx : PE (bz X s3 H3 scope ce fp Z) elt (te σ) := by rw [hce] at inx ⊢; exact he s3 H3 C cl fp Z σ inx
  have out : ∀ u s', Z u s' → notedBy (model X.prog X.w) X.A ce (fun e s'' => compPost (model X.prog X.w) X.A X.xe none (fun v s' => EP X pins σ Q v s') (.ref D) C (.error e) s'') u s' := fun u s' z => by
    rw [hZ] at z
    exact hz _ _ _ _ _ _ _ _ cF nL nF n0 z
  have loop : codeAny (model X.prog X.w) X.A (.compLoop (.ListComp elt [⟨tg, iter, ifs, 0⟩] scope pos) 0 (.ref it) (.ref D) ce) (compPost (model X.prog X.w) X.A X.xe none (fun v s' => EP X pins σ Q v s') (.ref D) C) s4 := by
    refine compLoop_any (fun n s' => ∃ i H', Lp (bz X s3 H3 scope ce fp Z) (wipe σ (own.map (·.2))) fp tn i H' s' ∧ W0 i n H') ?_ m0 ⟨0, H3, ⟨I4, T.keep _ _ _ t3 fun b _ o e => k4 b o e, fun b hb => (f3 b hb).1.1⟩, by rw [eH, hD]; exact w0⟩
    rintro n s5 ⟨i, H5, L5, w5⟩
    rcases turn i n H5 w5 with ⟨stop, qq⟩ | ⟨go, Nx, hNx, step⟩
    · refine thnF (T.done (bz X s3 H3 scope ce fp Z) rfl rfl rfl hc i [] s5 _ H5 (fun _ _ => False) L5.inv (Lp.fp rfl L5.inv L5.fr) L5.tn stop) fun r s6 ⟨hr, I6⟩ => ?_
      subst hr
      obtain ⟨⟨m, hn⟩, z⟩ := ns I6
      refine ⟨m, hn, fun h7 sb => ?_⟩
      have I7 : Inv X pins σ H5 s6 := home I6
      have fC : FpOk X pins H5 C := I3.fpOk (Nat.le_of_eq hC.symm) z
      obtain ⟨c0, c1, c2, c3, c4, c5⟩ := fC
      exact ⟨.ref D, H5, I7.turned (t' := s6.toks) (fun b o hb e => (sb.2 b hb).trans e) c0 c1 c3 c4 c5, rfl, by rw [hD]; exact qq⟩
    · refine thnF (T.item (bz X s3 H3 scope ce fp Z) rfl rfl rfl hc i [] s5 _ H5 (fun _ _ => False) L5.inv (Lp.fp rfl L5.inv L5.fr) L5.tn go) fun r s6 ⟨u, hr, h6⟩ => ?_
      subst hr
      refine thnF h6 fun _ s7 ⟨x, H7, I7, r7, y7, t7, n7⟩ => ?_
      have P7 := I7.pinned (Lp.fp rfl I7 n7) (T.obj _ _ t7)
      refine wpAny_mono (PGx.run _ s7 _ H7 x u _ P7 r7 (step x H7 y7)) (fun _ s8 ⟨σ8, H8, I8, hw8, q8⟩ => ?_) out
      refine wpAny_mono (PTx.run _ s8 σ8 H8 _ I8 q8) (fun b s9 ⟨H9, I9, q9⟩ => ?_) out
      -- the end of a turn
      have fin : ∀ {s' : Shared} {H' : Hp}, Inv (bz X s3 H3 scope ce fp Z) ([] ++ pinsAt fp s7.heap) σ8 H' s' → Nx H' → ∃ m, m < n ∧ ∃ i H', Lp (bz X s3 H3 scope ce fp Z) (wipe σ (own.map (·.2))) fp tn i H' s' ∧ W0 i m H' := fun {s' H'} I' nx => by
        obtain ⟨m', lt, w'⟩ := hNx H' nx
        have pin : ∀ b ∈ fp, ∀ o, s7.heap.get? b = some o → s'.heap.get? b = some o ∧ H' b = none := fun b hb o e => by
          have z := I'.pin (b, o) (List.mem_append_right _ (List.mem_append_right _ (mem_pinsAt hb e)))
          exact ⟨z.1, z.2.1⟩
        refine ⟨m', lt, i + 1, H', ⟨(Inv.unpinned (pins := []) I').weak (by rw [← hw8, wipe_length]) fun j v e => ?_, T.keep _ _ _ t7 fun b hb o e => (pin b hb o e).1, fun b hb => ?_⟩, w'⟩
        · rw [← hw8] at e
          exact (wipe_some e).1
        · obtain ⟨o, e, _⟩ := T.obj _ _ t7 b hb
          exact (pin b hb o e).2
      cases b with
      | false =>
        rw [if_neg Bool.false_ne_true]
        exact fin I9 (by rw [if_neg Bool.false_ne_true] at q9; exact q9)
      | true =>
        rw [if_pos rfl]
        rw [if_pos rfl] at q9
        refine wpAny_mono (PEx.run _ s9 σ8 H9 _ I9 q9) (fun z s10 ⟨yv, H10, I10, r10, acc, e10, l10, nx⟩ => ?_) out
        exact app_ok (X := bz X s3 H3 scope ce fp Z) I10 (by rw [hD]; exact e10) l10 r10 fun s11 I11 => fin I11 (by rw [hD]; exact nx)
  have fin2 := codeAny_compStart_list loop (T.self X.A 0 _ _ _ (T.keep _ _ _ t3 fun b _ o e => k4 b o e) loop)
  rw [hce, hcl, hC, h4, h3, hD] at fin2
  exact fin2
theorem pe_lcE {elt tg iter : Expr} {ifs : List Expr} {scope : Scope} {own : List (Str × Nat)} {pos : Pos} {wi : TI} {g : TG} {tt : St → TT} {te : St → TE} {W E : XK} {E₁ : Value → Shared → Prop}
    (hc : X.calm = true) (hN : X.N.Nodup) (hs : X.stack = X.env :: X.outer) (hf : X.env.frame = some X.env.locals) (hex : X.ex = []) (hx : X.xe = fun e s' => wpAny (model X.prog X.w) X.A (leaving X.env e) (fun _ s'' => CX X.prog X.w X.outer X.H_0 X.s_0 E e s'') E₁ s')
    (hW : ∀ cls d H, W cls d H → E cls d H) (hi : PI X tg iter wi) (ok : BlkOk X.N X.env.scope scope own)
    (hg : ∀ (s : Shared) (H : Hp) (C : Addr) (cl : List (Str × Addr)) (fp : List Addr) (Z : Value → Shared → Prop), PG (bz X s H scope (compEnvC scope cl C X.env) fp Z) tg g)
    (ht : ∀ (s : Shared) (H : Hp) (C : Addr) (cl : List (Str × Addr)) (fp : List Addr) (Z : Value → Shared → Prop) (σ : St), InX X (bz X s H scope (compEnvC scope cl C X.env) fp Z) W σ → PTs (bz X s H scope (compEnvC scope cl C X.env) fp Z) ifs (tt σ))
    (he : ∀ (s : Shared) (H : Hp) (C : Addr) (cl : List (Str × Addr)) (fp : List Addr) (Z : Value → Shared → Prop) (σ : St), InX X (bz X s H scope (compEnvC scope cl C X.env) fp Z) W σ → PE (bz X s H scope (compEnvC scope cl C X.env) fp Z) elt (te σ))
    (hso : ∀ x, foldedSetIterable iter X.env x = pure x := by intro _; rfl) : PE X (.ListComp elt [⟨tg, iter, ifs, 0⟩] scope pos) (fun σ H Q => tLc wi g (tt σ) (te σ) (own.map (·.2)) σ H Q) :=
  pe_lcZ hc hN (fun _ _ _ _ _ _ _ _ cF nL nF n0 z => out_post hs hf hex hx hW cF nL nF n0 z) hi ok hg ht he hso
/-- where no error leaves, its parts told of the def's own state -/
theorem pe_lcN {elt tg iter : Expr} {ifs : List Expr} {scope : Scope} {own : List (Str × Nat)} {pos : Pos} {wi : TI} {g : TG} {tt : St → TT} {te : St → TE}
    (hc : X.calm = true) (hN : X.N.Nodup) (hi : PI X tg iter wi) (ok : BlkOk X.N X.env.scope scope own)
    (hg : ∀ (s : Shared) (H : Hp) (C : Addr) (cl : List (Str × Addr)) (fp : List Addr) (Z : Value → Shared → Prop), PG (bz X s H scope (compEnvC scope cl C X.env) fp Z) tg g)
    (ht : ∀ (s : Shared) (H : Hp) (C : Addr) (cl : List (Str × Addr)) (fp : List Addr) (Z : Value → Shared → Prop) (σ : St), InX X (bz X s H scope (compEnvC scope cl C X.env) fp Z) (fun _ _ _ => False) σ → PTs (bz X s H scope (compEnvC scope cl C X.env) fp Z) ifs (tt σ))
    (he : ∀ (s : Shared) (H : Hp) (C : Addr) (cl : List (Str × Addr)) (fp : List Addr) (Z : Value → Shared → Prop) (σ : St), InX X (bz X s H scope (compEnvC scope cl C X.env) fp Z) (fun _ _ _ => False) σ → PE (bz X s H scope (compEnvC scope cl C X.env) fp Z) elt (te σ))
    (hso : ∀ x, foldedSetIterable iter X.env x = pure x := by intro _; rfl) : PE X (.ListComp elt [⟨tg, iter, ifs, 0⟩] scope pos) (fun σ H Q => tLc wi g (tt σ) (te σ) (own.map (·.2)) σ H Q) :=
  pe_lcZ hc hN (fun _ _ _ _ _ _ _ _ _ _ _ _ z => by
    obtain ⟨_, _, _, _, _, _, _, _, _, _, _, _, _, _, _, _, _, _, f⟩ := z
    exact f.elim) hi ok hg ht he hso
end
end L2.Bv


namespace L2.Da
open PySem L2 L2.Bv L2.Ts
theorem szOf {n : Nat} (h : n ≤ 1000000) : n ≤ sizeLine := by
  have e : sizeLine = 16777216 := by decide
  omega
section
variable {c : Cf} {Γ : Gm} {te tb : TE} {tt : TT} {K : PySem.W.Frag} {i : Nat} {e : Ent} {sp : Sp} {dvs : List V} {E : XK} {tr : TA} {g : TG} {vs : List Nat}
theorem vn_callV (h : Γ[i]? = some (some e)) (hb : ∀ O H σ, Good c O H σ Γ → ∀ Q, tr σ H Q) : Vn c Γ (tCall sp dvs E (tCons (tVar i) tr)) := fun O H σ G Q q => v_var h O H σ G _ fun v H1 k1 j1 p1 => hb O H1 σ (G.go k1 j1) _
theorem vn_lcT (h : Vn c Γ te) : Vn c Γ (tLc (iTup K te) g tt tb vs) := fun O H σ G Q q => h O H σ G _ fun v H1 k1 j1 z => z.elim
end
end L2.Da
namespace L2.K2
open PySem L2 L2.Bv L2.Pc L2.Ts L2.Da PyProof.Rows Bov LamX

abbrev sMl : Stmt := top 31
theorem scMl : FnScope ["pact", "mask", "at"] ["pact", "mask"] (defScope sMl) := ⟨rfl, rfl, rfl, by decide +kernel, rfl, by decide +kernel, by decide +kernel⟩
abbrev sKl : Stmt := top 32
theorem scKl : FnScope ["pact", "number", "at"] ["pact", "number"] (defScope sKl) := ⟨rfl, rfl, rfl, by decide +kernel, rfl, by decide +kernel, by decide +kernel⟩
abbrev sHo : Stmt := top 33
theorem scHo : FnScope ["pact", "note"] ["pact", "note"] (defScope sHo) := ⟨rfl, rfl, rfl, by decide +kernel, rfl, by decide +kernel, by decide +kernel⟩
abbrev sNo : Stmt := top 34
theorem scNo : FnScope ["pact", "hand", "at"] ["pact", "hand"] (defScope sNo) := ⟨rfl, rfl, rfl, by decide +kernel, rfl, by decide +kernel, by decide +kernel⟩
abbrev sUo : Stmt := top 36
theorem scUo : FnScope ["pact", "note"] ["pact", "note"] (defScope sUo) := ⟨rfl, rfl, rfl, by decide +kernel, rfl, by decide +kernel, by decide +kernel⟩
abbrev sWp : Stmt := top 37
theorem scWp : FnScope ["pact"] ["pact"] (defScope sWp) := ⟨rfl, rfl, rfl, by decide +kernel, rfl, by decide +kernel, by decide +kernel⟩
abbrev sKy : Stmt := top 38
theorem scKy : FnScope ["pact", "hand", "number"] ["pact", "hand"] (defScope sKy) := ⟨rfl, rfl, rfl, by decide +kernel, rfl, by decide +kernel, by decide +kernel⟩
abbrev sRn : Stmt := top 39
theorem scRn : FnScope ["pact", "hand"] ["pact", "hand"] (defScope sRn) := ⟨rfl, rfl, rfl, by decide +kernel, rfl, by decide +kernel, by decide +kernel⟩
abbrev sCo : Stmt := top 41
theorem scCo : FnScope ["pact", "lot", "note"] ["pact", "lot"] (defScope sCo) := ⟨rfl, rfl, rfl, by decide +kernel, rfl, by decide +kernel, by decide +kernel⟩

/-- the notes of a mask, in order -/
def lotM (w : PkW) (m : Nat) : List Str := w.zs.filter fun z => m.testBit (numOf w.ns z)
def rNum (w : PkW) (ds : List PyData) (d : PyData) : Prop := ∃ i, i < w.ns.length ∧ ds = [.str (nameAt w.ns i)] ∧ d = nD i
def rNumX (w : PkW) (ds : List PyData) (z : Str) : Prop := ds = [.str z] ∧ NoNt w.ns z
def rHnd (w : PkW) (ds : List PyData) (d : PyData) : Prop := ∃ (i : Nat) (z : Str), w.hs[i]? = some z ∧ ds = [.str z] ∧ d = nD i
def rHndX (w : PkW) (ds : List PyData) (z : Str) : Prop := ds = [.str z] ∧ z ∉ w.hs
def rMl (w : PkW) (ds : List PyData) (d : PyData) : Prop := ∃ m : Nat, ds = [nD m] ∧ d = .tuple ((lotM w m).map .str)
def rKl (w : PkW) (ds : List PyData) (d : PyData) : Prop := ∃ (i : Nat) (z : Str), w.hs[i]? = some z ∧ ds = [nD i] ∧ d = .int ((((rowI w.ns z).filter fun k => w.wm.testBit k).length : Nat) - 1)
def rHo (w : PkW) (ds : List PyData) (d : PyData) : Prop := ∃ i, i < w.ns.length ∧ ds = [.str (nameAt w.ns i)] ∧ d = .str (handAt w.ns i)
def rNo (w : PkW) (ds : List PyData) (d : PyData) : Prop := ∃ z, z ∈ w.hs ∧ ds = [.str z] ∧ d = .tuple (((rowI w.ns z).map (nameAt w.ns)).map .str)
def rUo (w : PkW) (ds : List PyData) (d : PyData) : Prop := ∃ i, i < w.ns.length ∧ ds = [.str (nameAt w.ns i)] ∧ d = .tuple ((lotM w (w.ms.getD i 0)).map .str)
def rWp (w : PkW) (ds : List PyData) (d : PyData) : Prop := ds = [] ∧ d = .tuple ((lotM w w.wm).map .str)
def rKn (w : PkW) (ds : List PyData) (d : PyData) : Prop := ∃ (z : Str) (k : Nat), z ∈ w.hs ∧ 1 ≤ ((rowI w.ns z).filter fun k => w.wm.testBit k).length ∧ (rowI w.ns z)[((rowI w.ns z).filter fun k => w.wm.testBit k).length - 1]? = some k ∧ ds = [.str z] ∧ d = .str (nameAt w.ns k)
def rRn (w : PkW) (ds : List PyData) (d : PyData) : Prop := ∃ (i : Nat) (z y : Str), w.hs[i]? = some z ∧ w.rs[i]? = some y ∧ ds = [.str z] ∧ d = .str y
def rCo (w : PkW) (ds : List PyData) (d : PyData) : Prop := ∃ lot : List Str, lot.length ≤ 1000 ∧ (∀ z ∈ lot, ∃ i, i < w.ns.length ∧ nameAt w.ns i = z) ∧ ds = [.tuple (lot.map .str)] ∧ d = .tuple ((lotM w (joinM w.ms (lot.map (numOf w.ns)))).map .str)
def rCoX (w : PkW) (ds : List PyData) (z : Str) : Prop := ∃ pre post : List Str, (pre ++ z :: post).length ≤ 1000 ∧ (∀ y ∈ pre, ∃ i, i < w.ns.length ∧ nameAt w.ns i = y) ∧ NoNt w.ns z ∧ ds = [.tuple ((pre ++ z :: post).map .str)]
theorem len_of_dq {K : PySem.W.Frag} {S : Addr → Prop} {H : Hp} {vs : List V} {ds : List PyData} {n : Nat} {v : V} (h : DqAll K S H vs ds) (l : ds.length = n) : (v :: vs).length = n + 1 := by rw [List.length_cons, h.length, l]
/-- a pact's def, at its start -/
theorem pk_start {K : PySem.W.Frag} {C : Addr} {S : Addr → Prop} {H : Hp} {w : PkW} {N : List Str} {vs : List V} {ds : List PyData} (al : Al S H) (st : St' S H (PkHolds K C w)) (h : DqAll K S H vs ds) : Good (pureC K S H al) [] H (start N (.ref w.x :: vs)) (startE N (.p (isPk K C w) :: ds.map .d)) :=
  gen_start rfl rfl rfl True.intro (.cons (St'.mono (St'.sub (fun x z => z.elim id fun q => by cases q) st) fun H' h => ⟨rfl, h⟩) (SeAll.ofDq (c := pureC K S H al) h)) fun e he => by
    rcases List.mem_cons.mp he with rfl | he
    · exact True.intro
    · obtain ⟨d, _, rfl⟩ := List.mem_map.mp he
      exact True.intro
theorem ixS {xs : List Str} {i : Nat} {z : Str} (h : xs[i]? = some z) : atI (xs.map PyData.str) (i : Int) = some (.str z) := atI_nat (by rw [List.getElem?_map, h]; rfl)
theorem ixN' {xs : List Nat} {i : Nat} {z : Nat} (h : xs[i]? = some z) : atI (xs.map nD) (i : Int) = some (nD z) := atI_nat (by rw [List.getElem?_map, h]; rfl)
theorem ixNm {w : PkW} {i : Nat} (h : i < w.ns.length) : atI ((w.ns.map (·.1)).map PyData.str) (i : Int) = some (.str (nameAt w.ns i)) := ixS (by rw [nameMap, List.getElem?_map, List.getElem?_range h]; rfl)
theorem ixRow {w : PkW} {i : Nat} {z : Str} (h : w.hs[i]? = some z) : atI (w.hs.map fun h => PyData.tuple ((rowI w.ns h).map nD)) (i : Int) = some (.tuple ((rowI w.ns z).map nD)) := atI_nat (by rw [List.getElem?_map, h]; rfl)
theorem ixNt {w : PkW} {i : Nat} (h : i < w.ns.length) : atI ((List.range w.ns.length).map (ntD w.ns)) (i : Int) = some (ntD w.ns i) := atI_nat (by rw [List.getElem?_map, List.getElem?_range h]; rfl)
theorem ixMs {w : PkW} (F : PkFix w) {i : Nat} (h : i < w.ns.length) : atI (w.ms.map nD) (i : Int) = some (nD (w.ms.getD i 0)) := ixN' (by rw [List.getD_eq_getElem?_getD, List.getElem?_eq_getElem (by rw [F.mo.1]; exact h)]; rfl)
theorem dqNats_inv {K : PySem.W.Frag} {S : Addr → Prop} {H : Hp} : ∀ {vs : List V} (xs : List Nat), DqAll K S H vs (xs.map nD) → vs = xs.map nV
  | _, [], .nil => rfl
  | _, x :: r, .cons a b => by
    cases a
    rw [dqNats_inv r b]
    rfl
theorem v_joined {c : Cf} {Γ : Gm} {tA : TA} {K : PySem.W.Frag} {ms js : List Nat} {E : XK} (hK : K = c.K) (h : VA c Γ tA [.tuple (ms.map nD), .list (js.map nD)]) (l : ∀ j ∈ js, j < ms.length) : Vd c Γ (tCall (spJoined K) [] E tA) (nD (joinM ms js)) := fun O H σ G Q q => by
  subst hK
  refine h O H σ G _ fun vs H1 k1 j1 p1 => ?_
  cases p1 with
  | cons a b =>
    cases b with
    | cons b r =>
      cases r
      cases a with
      | tup a1 a2 =>
        cases b with
        | lst b1 b2 =>
          have e1 := dqNats_inv ms a2
          have e2 := dqNats_inv js b2
          subst e1 e2
          exact ⟨_, _, ms, js, by rw [List.append_nil], .inr a1.now, sqLRd b1.now, l, q _ H1 k1 j1 (.int _)⟩
theorem numz {w : PkW} (F : PkFix w) {z : Str} (h : z ∈ w.zs) : numOf w.ns z < w.ns.length ∧ nameAt w.ns (numOf w.ns z) = z := by
  obtain ⟨i, li, rfl⟩ := F.names.mp h
  rw [numOf_name F.ok.nt li]
  exact ⟨li, rfl⟩
theorem rowLen {w : PkW} (F : PkFix w) (z : Str) : (rowI w.ns z).length ≤ 40 := Nat.le_trans (idx_len _ _) F.ok.forty
section
variable {P : Program} {w0 : World} {K : PySem.W.Frag} {mg : Str → Option Value} {base : Heap} {C CN : Addr}

theorem numX {f : Addr} {fd : FuncData} (F : FnOk P w0 K mg base (L2.CX P w0) 3 f fd ["pact", "note"] (spNte K C CN)) : FnOk P w0 K mg base (L2.CX P w0) 3 f fd ["pact", "note"] (spX K C CN rNum rNumX) := FnOk.sp F fun vs H Q E h => by
  obtain ⟨S, w, vs', ds, rfl, al, F, st, da, q⟩ := h
  rcases q with ⟨d, ⟨i, li, rfl, rfl⟩, q⟩ | ⟨z, ⟨rfl, no⟩, q⟩
  · cases da with
    | cons a b =>
      cases b
      cases a
      exact ⟨w.x, w.hs, w.xs, w.ns, w.rs, w.ps, _, rfl, st.now.full F, .inl ⟨i, li, rfl, q _ H (Same.refl _) (.int _)⟩⟩
  · cases da with
    | cons a b =>
      cases b
      cases a
      exact ⟨w.x, w.hs, w.xs, w.ns, w.rs, w.ps, _, rfl, st.now.full F, .inr ⟨no, q⟩⟩
theorem hndX {f : Addr} {fd : FuncData} (F : FnOk P w0 K mg base (L2.CX P w0) 3 f fd ["pact", "hand"] (spHnd K C CN)) : FnOk P w0 K mg base (L2.CX P w0) 3 f fd ["pact", "hand"] (spX K C CN rHnd rHndX) := FnOk.sp F fun vs H Q E h => by
  obtain ⟨S, w, vs', ds, rfl, al, F, st, da, q⟩ := h
  rcases q with ⟨d, ⟨i, z, hi, rfl, rfl⟩, q⟩ | ⟨z, ⟨rfl, no⟩, q⟩
  · cases da with
    | cons a b =>
      cases b
      cases a
      exact ⟨w.x, w.hs, w.xs, w.ns, w.rs, w.ps, _, rfl, st.now.full F, .inl ⟨i, hi, q _ H (Same.refl _) (.int _)⟩⟩
  · cases da with
    | cons a b =>
      cases b
      cases a
      exact ⟨w.x, w.hs, w.xs, w.ns, w.rs, w.ps, _, rfl, st.now.full F, .inr ⟨no, q⟩⟩
theorem ok_ml {f : Addr} {fd : FuncData} (T : PcK K C) (F : Fun K "mask_lot" "mask_lot" sMl f fd) (mt : mg "tuple" = none) : FnOk P w0 K mg base CX0 1 f fd ["pact", "mask"] (spN K C rMl) := by
  refine F.ok scMl (fun vs H Q E h => ?_) (fun cdv A outer s H vs Q E hr h => ?_)
  · obtain ⟨S, w, vs', ds, d, e0, al, F, st, da, ⟨m, e2, e3⟩, q⟩ := h
    have e1 : ds.length = 1 := by subst e2; rfl
    subst e0
    exact len_of_dq da e1
  obtain ⟨S, w, vs', ds, d, e0, al, F, st, da, ⟨m, e2, e3⟩, q⟩ := h
  subst e2 e3
  subst e0
  refine ⟨_, pss_one (ps_ret (pe_callTy (tupOfK (K := K) rfl) (by rfl) mt (by decide +kernel) (pa_cons (pe_lc (own := [("at", 2)]) (g := gName 2) (tt := _) rfl scMl.nd (pi_tupK (K := K) rfl (pe_fldK (K := K) rfl (pv 0) rfl)) (blkOk_by (N := ["pact", "mask", "at"]) (sc := defScope sMl) (by decide +kernel)) (fun _ _ _ _ _ => pg_name (i := 2) scMl.nd rfl (Or.inl rfl)) (fun _ _ _ _ _ => (pts_one (ptTruthK (K := K) rfl (pe_op op_and (pe_op op_shr (pv 1) (pv 2)) pe_int) (by intro _; rfl)))) (fun _ _ _ _ _ => (pe_ix (ixTupK (K := K) rfl) (pe_fldK (K := K) rfl (pv 0) rfl) (pv 2) (fun _ _ => rfl)))) pa_nil))), ?_⟩
  have G := pk_start (N := ["pact", "mask", "at"]) al st da
  exact s_ret G (v_tupL rfl (va_cons ((lc_f (as := w.zs) (ea := fun z => nD (numOf w.ns z)) (f := fun z => .str z) (p := fun z => m.testBit (numOf w.ns z)) (vi_tup rfl (v_byname T F rfl rfl)) (szOf (by rw [F.zlen]; have := F.ok.forty; omega)) (tg_name 2) (by simp)
    (fun z _ => t_bit rfl (v_vd (x := nD m) rfl).w (v_vd (x := nD (numOf w.ns z)) rfl).w) fun z hz _ => v_ixT rfl (v_names T F rfl rfl) (v_vd (x := nD (numOf w.ns z)) rfl).w (by
      have z1 := ixNm (w := w) (numz F hz).1
      rw [(numz F hz).2] at z1
      exact z1)).d) va_nil)) (pure_end q)
theorem ok_kl {f : Addr} {fd : FuncData} (T : PcK K C) (F : Fun K "key_level" "key_level" sKl f fd) (mn : mg "len" = none) : FnOk P w0 K mg base CX0 1 f fd ["pact", "number"] (spN K C rKl) := by
  refine F.ok scKl (fun vs H Q E h => ?_) (fun cdv A outer s H vs Q E hr h => ?_)
  · obtain ⟨S, w, vs', ds, d, e0, al, F, st, da, ⟨i, z, hi, e2, e3⟩, q⟩ := h
    have e1 : ds.length = 1 := by subst e2; rfl
    subst e0
    exact len_of_dq da e1
  obtain ⟨S, w, vs', ds, d, e0, al, F, st, da, ⟨i, z, hi, e2, e3⟩, q⟩ := h
  subst e2 e3
  subst e0
  refine ⟨_, pss_one (ps_ret (pe_op op_sub (pe_callB (lenSeqK (K := K) rfl) (by rfl) mn PySem.boot_len (pa_cons (pe_lc (own := [("at", 2)]) (g := gName 2) (tt := _) rfl scKl.nd (pi_tupK (K := K) rfl (pe_ix (ixTupK (K := K) rfl) (pe_fldK (K := K) rfl (pv 0) rfl) (pv 1) (fun _ _ => rfl))) (blkOk_by (N := ["pact", "number", "at"]) (sc := defScope sKl) (by decide +kernel)) (fun _ _ _ _ _ => pg_name (i := 2) scKl.nd rfl (Or.inl rfl)) (fun _ _ _ _ _ => (pts_one (ptTruthK (K := K) rfl (pe_op op_and (pe_op op_shr (pe_fldK (K := K) rfl (pv 0) rfl) (pv 2)) pe_int) (by intro _; rfl)))) (fun _ _ _ _ _ => pv 2)) pa_nil)) pe_int)), ?_⟩
  have G := pk_start (N := ["pact", "number", "at"]) al st da
  exact s_ret G ((v_subI ((v_lenL rfl (VA.w (va_cons ((lc_f (as := rowI w.ns z) (ea := nD) (f := nD) (p := fun k => w.wm.testBit k) (vi_tup rfl (v_ixT rfl (v_rows T F rfl rfl) (v_vd (x := nD i) rfl).w (ixRow hi))) (szOf (by have := rowLen F z; omega)) (tg_name 2) (by simp)
    (fun k _ => t_bit rfl (v_whole T F rfl rfl).w (v_vd (x := nD k) rfl).w) fun k _ _ => v_vd rfl).d) va_nil))).w) (v_int 1).w).eq (by rw [List.length_map])) (pure_end q)
theorem ok_ho {f : Addr} {fd : FuncData} (T : PcK K C) (F : Fun K "hand_of" "hand_of" sHo f fd) {gN : Addr} {fdN : FuncData} (N : FnOk P w0 K mg base (L2.CX P w0) 3 gN fdN ["pact", "note"] (spX K C CN rNum rNumX)) (kN : PySem.W.keepIn K (.ref gN) = true) (bN : Binds K fdN ["pact", "note"] []) (mN : mg "note_number" = some (.ref gN)) : FnOk P w0 K mg base (L2.CX P w0) 4 f fd ["pact", "note"] (spX K C CN rHo rNumX) := by
  refine F.okX scHo (fun vs H Q E h => ?_) (fun cdv A outer s H vs Q E hr h => ?_)
  · obtain ⟨S, w, vs', ds, e0, al, F, st, da, q⟩ := h
    have e1 : ds.length = 1 := by
      rcases q with ⟨d, ⟨i, li, e2, e3⟩, q⟩ | ⟨z, ⟨e2, no⟩, q⟩ <;> subst e2 <;> rfl
    subst e0
    exact len_of_dq da e1
  obtain ⟨S, w, vs', ds, e0, al, F, st, da, q⟩ := h
  subst e0
  refine ⟨_, pss_one (ps_ret (pe_ix (ixTupK (K := K) rfl) (pe_ix (ixTupK (K := K) rfl) (pe_fldK (K := K) rfl (pv 0) rfl) (pe_call (E := E) N hr rfl mN kN bN .nil (passes_call (takes_of rfl rfl rfl rfl) fun _ _ _ _ h => h) (pa_cons (pv 0) (pa_cons (pv 1) pa_nil))) (fun _ _ => rfl)) pe_int (fun _ _ => rfl))), ?_⟩
  rcases q with ⟨d, ⟨i, li, e2, e3⟩, q⟩ | ⟨z, ⟨e2, no⟩, q⟩
  · subst e2 e3
    have G := pk_start (N := ["pact", "note"]) al st da
    exact s_ret G (v_ixT rfl (v_ixT rfl (v_notes T F rfl rfl) (v_callX rfl rfl F (va_cons (v_vd rfl) va_nil) ⟨i, li, rfl, rfl⟩).w (ixNt li)) (v_int 1).w rfl) (pure_end q)
  · subst e2
    have G := pk_start (N := ["pact", "note"]) al st da
    exact sn_ret G (vn_op1 (vn_op2 (v_notes T F rfl rfl).w (v_callO rfl rfl F (va_cons (v_vd rfl) va_nil) ⟨rfl, no⟩ fun O H' σ G => odd_go q (KS.same G.ks))))
theorem ok_no {f : Addr} {fd : FuncData} (T : PcK K C) (F : Fun K "notes_of" "notes_of" sNo f fd) {gHn : Addr} {fdHn : FuncData} (Hn : FnOk P w0 K mg base (L2.CX P w0) 3 gHn fdHn ["pact", "hand"] (spX K C CN rHnd rHndX)) (kHn : PySem.W.keepIn K (.ref gHn) = true) (bHn : Binds K fdHn ["pact", "hand"] []) (mHn : mg "hand_number" = some (.ref gHn)) (mt : mg "tuple" = none) : FnOk P w0 K mg base (L2.CX P w0) 4 f fd ["pact", "hand"] (spX K C CN rNo rHndX) := by
  refine F.okX scNo (fun vs H Q E h => ?_) (fun cdv A outer s H vs Q E hr h => ?_)
  · obtain ⟨S, w, vs', ds, e0, al, F, st, da, q⟩ := h
    have e1 : ds.length = 1 := by
      rcases q with ⟨d, ⟨y, hy, e2, e3⟩, q⟩ | ⟨z, ⟨e2, no⟩, q⟩ <;> subst e2 <;> rfl
    subst e0
    exact len_of_dq da e1
  obtain ⟨S, w, vs', ds, e0, al, F, st, da, q⟩ := h
  subst e0
  refine ⟨_, pss_one (ps_ret (pe_callTy (tupOfK (K := K) rfl) (by rfl) mt (by decide +kernel) (pa_cons (pe_lc (own := [("at", 2)]) (g := gName 2) (tt := tYes) rfl scNo.nd (pi_tupK (K := K) rfl (pe_ix (ixTupK (K := K) rfl) (pe_fldK (K := K) rfl (pv 0) rfl) (pe_call (E := E) Hn hr rfl mHn kHn bHn .nil (passes_call (takes_of rfl rfl rfl rfl) fun _ _ _ _ h => h) (pa_cons (pv 0) (pa_cons (pv 1) pa_nil))) (fun _ _ => rfl))) (blkOk_by (N := ["pact", "hand", "at"]) (sc := defScope sNo) (by decide +kernel)) (fun _ _ _ _ _ => pg_name (i := 2) scNo.nd rfl (Or.inl rfl)) (fun _ _ _ _ _ => pts_nil) (fun _ _ _ _ _ => (pe_ix (ixTupK (K := K) rfl) (pe_fldK (K := K) rfl (pv 0) rfl) (pv 2) (fun _ _ => rfl)))) pa_nil))), ?_⟩
  rcases q with ⟨d, ⟨y, hy, e2, e3⟩, q⟩ | ⟨z, ⟨e2, no⟩, q⟩
  · subst e2 e3
    have G := pk_start (N := ["pact", "hand", "at"]) al st da
    obtain ⟨i, hi⟩ := List.getElem?_of_mem hy
    exact s_ret G ((v_tupL rfl (va_cons ((lc_m (as := rowI w.ns y) (ea := nD) (f := fun k => .str (nameAt w.ns k)) (vi_tup rfl (v_ixT rfl (v_rows T F rfl rfl) (v_callX rfl rfl F (va_cons (v_vd rfl) va_nil) ⟨i, y, hi, rfl, rfl⟩).w (ixRow hi))) (szOf (by have := rowLen F y; omega)) (tg_name 2) (by simp)
      fun k hk => v_ixT rfl (v_names T F rfl rfl) (v_vd (x := nD k) rfl).w (ixNm (row_mem.mp hk).1)).d) va_nil)).eq (by rw [List.map_map]; rfl)) (pure_end q)
  · subst e2
    have G := pk_start (N := ["pact", "hand", "at"]) al st da
    exact sn_ret G (vn_callB (vn_lcT (vn_op2 (v_rows T F rfl rfl).w (v_callO rfl rfl F (va_cons (v_vd rfl) va_nil) ⟨rfl, no⟩ fun O H' σ G => odd_go q (KS.same G.ks)))))
theorem ok_uo {f : Addr} {fd : FuncData} (T : PcK K C) (F : Fun K "under_of" "under_of" sUo f fd) {gN : Addr} {fdN : FuncData} (N : FnOk P w0 K mg base (L2.CX P w0) 3 gN fdN ["pact", "note"] (spX K C CN rNum rNumX)) (kN : PySem.W.keepIn K (.ref gN) = true) (bN : Binds K fdN ["pact", "note"] []) (mN : mg "note_number" = some (.ref gN)) {gM : Addr} {fdM : FuncData} (M : FnOk P w0 K mg base CX0 1 gM fdM ["pact", "mask"] (spN K C rMl)) (kM : PySem.W.keepIn K (.ref gM) = true) (bM : Binds K fdM ["pact", "mask"] []) (mM : mg "mask_lot" = some (.ref gM)) : FnOk P w0 K mg base (L2.CX P w0) 4 f fd ["pact", "note"] (spX K C CN rUo rNumX) := by
  refine F.okX scUo (fun vs H Q E h => ?_) (fun cdv A outer s H vs Q E hr h => ?_)
  · obtain ⟨S, w, vs', ds, e0, al, F, st, da, q⟩ := h
    have e1 : ds.length = 1 := by
      rcases q with ⟨d, ⟨i, li, e2, e3⟩, q⟩ | ⟨z, ⟨e2, no⟩, q⟩ <;> subst e2 <;> rfl
    subst e0
    exact len_of_dq da e1
  obtain ⟨S, w, vs', ds, e0, al, F, st, da, q⟩ := h
  subst e0
  have hr1 : Room 1 _ := hr.mono (by decide)
  refine ⟨_, pss_one (ps_ret (pe_call (E := E) M hr1 rfl mM kM bM .nil pass0 (pa_cons (pv 0) (pa_cons (pe_ix (ixTupK (K := K) rfl) (pe_fldK (K := K) rfl (pv 0) rfl) (pe_call (E := E) N hr rfl mN kN bN .nil (passes_call (takes_of rfl rfl rfl rfl) fun _ _ _ _ h => h) (pa_cons (pv 0) (pa_cons (pv 1) pa_nil))) (fun _ _ => rfl)) pa_nil)))), ?_⟩
  rcases q with ⟨d, ⟨i, li, e2, e3⟩, q⟩ | ⟨z, ⟨e2, no⟩, q⟩
  · subst e2 e3
    have G := pk_start (N := ["pact", "note"]) al st da
    exact s_ret G (v_callN rfl rfl F (va_cons (v_ixT rfl (v_unders T F rfl rfl) (v_callX rfl rfl F (va_cons (v_vd rfl) va_nil) ⟨i, li, rfl, rfl⟩).w (ixMs F li)) va_nil) ⟨_, rfl, rfl⟩) (pure_end q)
  · subst e2
    have G := pk_start (N := ["pact", "note"]) al st da
    exact sn_ret G (vn_callV rfl (vnA_cons1 (vn_op2 (v_unders T F rfl rfl).w (v_callO rfl rfl F (va_cons (v_vd rfl) va_nil) ⟨rfl, no⟩ fun O H' σ G => odd_go q (KS.same G.ks)))))
theorem ok_wp {f : Addr} {fd : FuncData} (T : PcK K C) (F : Fun K "whole_paper" "whole_paper" sWp f fd) {gM : Addr} {fdM : FuncData} (M : FnOk P w0 K mg base CX0 1 gM fdM ["pact", "mask"] (spN K C rMl)) (kM : PySem.W.keepIn K (.ref gM) = true) (bM : Binds K fdM ["pact", "mask"] []) (mM : mg "mask_lot" = some (.ref gM)) : FnOk P w0 K mg base CX0 2 f fd ["pact"] (spN K C rWp) := by
  refine F.ok scWp (fun vs H Q E h => ?_) (fun cdv A outer s H vs Q E hr h => ?_)
  · obtain ⟨S, w, vs', ds, d, e0, al, F, st, da, ⟨e2, e3⟩, q⟩ := h
    have e1 : ds.length = 0 := by subst e2; rfl
    subst e0
    exact len_of_dq da e1
  obtain ⟨S, w, vs', ds, d, e0, al, F, st, da, ⟨e2, e3⟩, q⟩ := h
  subst e2 e3
  subst e0
  refine ⟨_, pss_one (ps_ret (pe_call M hr rfl mM kM bM .nil pass0 (pa_cons (pv 0) (pa_cons (pe_fldK (K := K) rfl (pv 0) rfl) pa_nil)))), ?_⟩
  have G := pk_start (N := ["pact"]) al st da
  exact s_ret G (v_callN rfl rfl F (va_cons (v_whole T F rfl rfl) va_nil) ⟨_, rfl, rfl⟩) (pure_end q)
theorem ok_kn {f : Addr} {fd : FuncData} (T : PcK K C) (F : Fun K "key_note" "key_note" sKy f fd) {gHn : Addr} {fdHn : FuncData} (Hn : FnOk P w0 K mg base (L2.CX P w0) 3 gHn fdHn ["pact", "hand"] (spX K C CN rHnd rHndX)) (kHn : PySem.W.keepIn K (.ref gHn) = true) (bHn : Binds K fdHn ["pact", "hand"] []) (mHn : mg "hand_number" = some (.ref gHn)) {gKl : Addr} {fdKl : FuncData} (Kl : FnOk P w0 K mg base CX0 1 gKl fdKl ["pact", "number"] (spN K C rKl)) (kKl : PySem.W.keepIn K (.ref gKl) = true) (bKl : Binds K fdKl ["pact", "number"] []) (mKl : mg "key_level" = some (.ref gKl)) : FnOk P w0 K mg base (L2.CX P w0) 4 f fd ["pact", "hand"] (spX K C CN rKn rHndX) := by
  refine F.okX scKy (fun vs H Q E h => ?_) (fun cdv A outer s H vs Q E hr h => ?_)
  · obtain ⟨S, w, vs', ds, e0, al, F, st, da, q⟩ := h
    have e1 : ds.length = 1 := by
      rcases q with ⟨d, ⟨y, k, hy, le, hk, e2, e3⟩, q⟩ | ⟨z, ⟨e2, no⟩, q⟩ <;> subst e2 <;> rfl
    subst e0
    exact len_of_dq da e1
  obtain ⟨S, w, vs', ds, e0, al, F, st, da, q⟩ := h
  subst e0
  have hr1 : Room 1 _ := hr.mono (by decide)
  refine ⟨_, pss_cons (ps_set (i := 2) scKy.nd rfl (Or.inl rfl) (pe_call (E := E) Hn hr rfl mHn kHn bHn .nil (passes_call (takes_of rfl rfl rfl rfl) fun _ _ _ _ h => h) (pa_cons (pv 0) (pa_cons (pv 1) pa_nil)))) (pss_one (ps_ret (pe_ix (ixTupK (K := K) rfl) (pe_fldK (K := K) rfl (pv 0) rfl) (pe_ix (ixTupK (K := K) rfl) (pe_ix (ixTupK (K := K) rfl) (pe_fldK (K := K) rfl (pv 0) rfl) (pv 2) (fun _ _ => rfl)) (pe_call (E := E) Kl hr1 rfl mKl kKl bKl .nil pass0 (pa_cons (pv 0) (pa_cons (pv 2) pa_nil))) (fun _ _ => rfl)) (fun _ _ => rfl)))), ?_⟩
  rcases q with ⟨d, ⟨y, k, hy, le, hk, e2, e3⟩, q⟩ | ⟨z, ⟨e2, no⟩, q⟩
  · subst e2 e3
    have G := pk_start (N := ["pact", "hand", "number"]) al st da
    obtain ⟨i, hi⟩ := List.getElem?_of_mem hy
    refine seq (s_set (x := nD i) G (v_callX rfl rfl F (va_cons (v_vd rfl) va_nil) ⟨i, y, hi, rfl, rfl⟩) fun σ' H' G => ?_)
    exact s_ret G (v_ixT rfl (v_names T F rfl rfl) (v_ixT rfl (v_ixT rfl (v_rows T F rfl rfl) (v_vd (x := nD i) rfl).w (ixRow hi)) (v_callN rfl rfl F (va_cons (v_vd (x := nD i) rfl) va_nil) ⟨i, y, hi, rfl, rfl⟩).w (by
      have e : ((((rowI w.ns y).filter fun k => w.wm.testBit k).length : Nat) : Int) - 1 = ((((rowI w.ns y).filter fun k => w.wm.testBit k).length - 1 : Nat) : Int) := by omega
      rw [e]
      exact ixN' hk)).w (ixNm (row_mem.mp (List.mem_of_getElem? hk)).1)) (pure_end q)
  · subst e2
    have G := pk_start (N := ["pact", "hand", "number"]) al st da
    exact seq (sn_set G (v_callO rfl rfl F (va_cons (v_vd rfl) va_nil) ⟨rfl, no⟩ fun O H' σ G => odd_go q (KS.same G.ks)))
theorem ok_rn {f : Addr} {fd : FuncData} (T : PcK K C) (F : Fun K "ready_note" "ready_note" sRn f fd) {gHn : Addr} {fdHn : FuncData} (Hn : FnOk P w0 K mg base (L2.CX P w0) 3 gHn fdHn ["pact", "hand"] (spX K C CN rHnd rHndX)) (kHn : PySem.W.keepIn K (.ref gHn) = true) (bHn : Binds K fdHn ["pact", "hand"] []) (mHn : mg "hand_number" = some (.ref gHn)) : FnOk P w0 K mg base (L2.CX P w0) 4 f fd ["pact", "hand"] (spX K C CN rRn rHndX) := by
  refine F.okX scRn (fun vs H Q E h => ?_) (fun cdv A outer s H vs Q E hr h => ?_)
  · obtain ⟨S, w, vs', ds, e0, al, F, st, da, q⟩ := h
    have e1 : ds.length = 1 := by
      rcases q with ⟨d, ⟨i, y, u, hi, hu, e2, e3⟩, q⟩ | ⟨z, ⟨e2, no⟩, q⟩ <;> subst e2 <;> rfl
    subst e0
    exact len_of_dq da e1
  obtain ⟨S, w, vs', ds, e0, al, F, st, da, q⟩ := h
  subst e0
  refine ⟨_, pss_one (ps_ret (pe_ix (ixTupK (K := K) rfl) (pe_fldK (K := K) rfl (pv 0) rfl) (pe_call (E := E) Hn hr rfl mHn kHn bHn .nil (passes_call (takes_of rfl rfl rfl rfl) fun _ _ _ _ h => h) (pa_cons (pv 0) (pa_cons (pv 1) pa_nil))) (fun _ _ => rfl))), ?_⟩
  rcases q with ⟨d, ⟨i, y, u, hi, hu, e2, e3⟩, q⟩ | ⟨z, ⟨e2, no⟩, q⟩
  · subst e2 e3
    have G := pk_start (N := ["pact", "hand"]) al st da
    exact s_ret G (v_ixT rfl (v_ready T F rfl rfl) (v_callX rfl rfl F (va_cons (v_vd rfl) va_nil) ⟨i, y, hi, rfl, rfl⟩).w (ixS hu)) (pure_end q)
  · subst e2
    have G := pk_start (N := ["pact", "hand"]) al st da
    exact sn_ret G (vn_op2 (v_ready T F rfl rfl).w (v_callO rfl rfl F (va_cons (v_vd rfl) va_nil) ⟨rfl, no⟩ fun O H' σ G => odd_go q (KS.same G.ks)))
theorem ok_co {f : Addr} {fd : FuncData} (T : PcK K C) (F : Fun K "closure_of" "closure_of" sCo f fd) {gN : Addr} {fdN : FuncData} (N : FnOk P w0 K mg base (L2.CX P w0) 3 gN fdN ["pact", "note"] (spX K C CN rNum rNumX)) (kN : PySem.W.keepIn K (.ref gN) = true) (bN : Binds K fdN ["pact", "note"] []) (mN : mg "note_number" = some (.ref gN)) {gM : Addr} {fdM : FuncData} (M : FnOk P w0 K mg base CX0 1 gM fdM ["pact", "mask"] (spN K C rMl)) (kM : PySem.W.keepIn K (.ref gM) = true) (bM : Binds K fdM ["pact", "mask"] []) (mM : mg "mask_lot" = some (.ref gM)) {gJ : Addr} {fdJ : FuncData} (J : FnOk P w0 K mg base CX0 1 gJ fdJ ["masks", "numbers"] (spJoined K)) (kJ : PySem.W.keepIn K (.ref gJ) = true) (bJ : Binds K fdJ ["masks", "numbers"] []) (mJ : mg "joined_mask" = some (.ref gJ)) : FnOk P w0 K mg base (L2.CX P w0) 4 f fd ["pact", "lot"] (spX K C CN rCo rCoX) := by
  refine F.okX scCo (fun vs H Q E h => ?_) (fun cdv A outer s H vs Q E hr h => ?_)
  · obtain ⟨S, w, vs', ds, e0, al, F, st, da, q⟩ := h
    have e1 : ds.length = 1 := by
      rcases q with ⟨d, ⟨lot, ll, hl, e2, e3⟩, q⟩ | ⟨z, ⟨pre, post, ll, hl, no, e2⟩, q⟩ <;> subst e2 <;> rfl
    subst e0
    exact len_of_dq da e1
  obtain ⟨S, w, vs', ds, e0, al, F, st, da, q⟩ := h
  subst e0
  have hr1 : Room 1 _ := hr.mono (by decide)
  refine ⟨_, pss_one (ps_ret (pe_call (E := E) M hr1 rfl mM kM bM .nil pass0 (pa_cons (pv 0) (pa_cons (pe_call (E := E) J hr1 rfl mJ kJ bJ .nil pass0 (pa_cons (pe_fldK (K := K) rfl (pv 0) rfl) (pa_cons (pe_lcE (own := [("note", 2)]) (g := gName 2) (tt := fun _ => tYes) (W := E) rfl scCo.nd rfl rfl rfl rfl (fun _ _ _ h => h) (pi_tupK (K := K) rfl (pv 1)) (blkOk_by (N := ["pact", "lot", "note"]) (sc := defScope sCo) (by decide +kernel)) (fun _ _ _ _ _ _ => pg_name (i := 2) scCo.nd rfl (Or.inl rfl)) (fun _ _ _ _ _ _ _ _ => pts_nil) (fun _ _ _ _ _ _ _ inx => pe_call (E := E) N hr rfl mN kN bN .nil inx.pass (pa_cons (pv 0) (pa_cons (pv 2) pa_nil)))) pa_nil))) pa_nil)))), ?_⟩
  rcases q with ⟨d, ⟨lot, ll, hl, e2, e3⟩, q⟩ | ⟨z, ⟨pre, post, ll, hl, no, e2⟩, q⟩
  · subst e2 e3
    have G := pk_start (N := ["pact", "lot", "note"]) al st da
    exact s_ret G (v_callN rfl rfl F (va_cons (v_joined rfl (va_cons (v_unders T F rfl rfl) (va_cons (Vd.eq (y := .list ((lot.map (numOf w.ns)).map nD)) (lc_m (as := lot) (ea := .str) (f := fun z => nD (numOf w.ns z)) (vi_tup rfl (v_vd rfl)) (szOf (by omega)) (tg_name 2) (by simp)
      fun z hz => v_callX rfl rfl F (va_cons (v_vd (x := .str z) rfl) va_nil) (by obtain ⟨i, li, rfl⟩ := hl z hz; rw [numOf_name F.ok.nt li]; exact ⟨i, li, rfl, rfl⟩)).d (by rw [List.map_map]; rfl)) va_nil)) (fun j hj => by
        obtain ⟨z, hz, rfl⟩ := List.mem_map.mp hj
        obtain ⟨i, li, rfl⟩ := hl z hz
        rw [numOf_name F.ok.nt li, F.mo.1]
        exact li)) va_nil) ⟨_, rfl, rfl⟩) (pure_end q)
  · subst e2
    have G := pk_start (N := ["pact", "lot", "note"]) al st da
    exact sn_ret G (vn_callV rfl (vnA_cons1 (vn_call1 (v_unders T F rfl rfl).w (vnA_cons1 (lc_never (as := pre ++ z :: post) (pre := pre) (a0 := z) (post := post) (e := .str) (Ra := fun y d => d = nD (numOf w.ns y)) (vi_tup rfl (v_vd rfl)) (szOf (by omega)) (tg_name 2) (by simp) rfl
      (fun y hy => (v_callX (x := nD (numOf w.ns y)) rfl rfl F (va_cons (v_vd (x := .str y) rfl) va_nil) (by obtain ⟨i, li, rfl⟩ := hl y hy; rw [numOf_name F.ok.nt li]; exact ⟨i, li, rfl, rfl⟩)).r rfl)
      (v_callO rfl rfl F (va_cons (v_vd (x := .str z) rfl) va_nil) ⟨rfl, no⟩ fun O H' σ G => odd_go q (KS.same G.ks)))))))
end
end L2.K2


namespace L2.Da
open PySem L2 L2.Bv L2.Ts
/-! ### kinds of data -/
def tyN : PyData → String
  | .none => "NoneType"
  | .bool _ => "bool"
  | .int _ => "int"
  | .str _ => "str"
  | .list _ => "list"
  | .tuple _ => "tuple"
  | .dict _ => "dict"
theorem tySqL {K : PySem.W.Frag} {H : Hp} {a : Addr} {xs : List V} (h : Rd H a (.lst xs)) : TyX K H (.ref a) (.type "list") := by
  rcases h with h | ⟨o, h⟩
  · exact .base (.lst h)
  · exact .base (.frz h)
theorem tySqT {K : PySem.W.Frag} {H : Hp} {a : Addr} {xs : List V} (h : SqT K H a xs) : TyX K H (.ref a) (.type "tuple") := by
  rcases h with (h | ⟨o, h⟩) | ⟨o, its, n, h, c, _⟩
  · exact .base (.tup h)
  · exact .fTuple h
  · exact .kTuple h c
theorem tyQ {K : PySem.W.Frag} {S : Addr → Prop} {H : Hp} {v : V} : ∀ {x : PyData}, Dq K S H v x → TyX K H v (.type (tyN x))
  | .none, h => by cases h; exact .base .non
  | .bool b, h => by cases h; exact .base (.bl b)
  | .int i, h => by cases h; exact .base (.int i)
  | .str s, h => by cases h; exact .base (.str s)
  | .list ds, h => by
    cases h with
    | lst a b => exact tySqL a.now
  | .tuple ds, h => by
    cases h with
    | tup a b => exact tySqT a.now
  | .dict m, h => by cases h
def isS : PyData → Bool
  | .str _ => true
  | _ => false
def isT : PyData → Bool
  | .tuple _ => true
  | _ => false
def isSeq : PyData → Bool
  | .tuple _ => true
  | .list _ => true
  | _ => false
theorem kitQ {K : PySem.W.Frag} {a b : String} {r : Bool} (h : kitB a b = some r) : PySem.W.kitOne K (.type a) (.type b) = some r := h
theorem kitS {K : PySem.W.Frag} : ∀ x : PyData, PySem.W.kitOne K (.type (tyN x)) (.type "str") = some (isS x)
  | .none => kitQ (by decide +kernel)
  | .bool _ => kitQ (by show kitB "bool" "str" = some false; decide +kernel)
  | .int _ => kitQ (by show kitB "int" "str" = some false; decide +kernel)
  | .str _ => kitQ (by show kitB "str" "str" = some true; decide +kernel)
  | .list _ => kitQ (by show kitB "list" "str" = some false; decide +kernel)
  | .tuple _ => kitQ (by show kitB "tuple" "str" = some false; decide +kernel)
  | .dict _ => kitQ (by show kitB "dict" "str" = some false; decide +kernel)
theorem kitT {K : PySem.W.Frag} : ∀ x : PyData, PySem.W.kitOne K (.type (tyN x)) (.type "tuple") = some (isT x)
  | .none => kitQ (by decide +kernel)
  | .bool _ => kitQ (by show kitB "bool" "tuple" = some false; decide +kernel)
  | .int _ => kitQ (by show kitB "int" "tuple" = some false; decide +kernel)
  | .str _ => kitQ (by show kitB "str" "tuple" = some false; decide +kernel)
  | .list _ => kitQ (by show kitB "list" "tuple" = some false; decide +kernel)
  | .tuple _ => kitQ (by show kitB "tuple" "tuple" = some true; decide +kernel)
  | .dict _ => kitQ (by show kitB "dict" "tuple" = some false; decide +kernel)
section
variable {c : Cf} {Γ : Gm} {te ta tb : TE} {tt tu : TT} {tA : TA} {x y z : PyData} {P : Own → Hp → V → Prop} {xs ys ds : List PyData} {b b' : Bool} {R : PyData → Prop} {K : PySem.W.Frag} {m n : Int} {s t : Str} {i : Nat}
theorem isiK {X : Cx} (hK : X.K = K) : CallR X (.builtin "isinstance") (rIsi K) := hK ▸ call_isi
theorem isiTK {X : Cx} (hK : X.K = K) : CallR X (.builtin "isinstance") (rIsiT K) := hK ▸ call_isiT
theorem v_isS (hK : K = c.K) (h : Vw c Γ te x) : Vd c Γ (tCB (rIsi K) (tCons te (tCons (tC (.ty "str")) tNil))) (.bool (isS x)) := fun O H σ G Q q => by
  subst hK
  exact h O H σ G _ fun v H1 k1 j1 p1 => ⟨v, .ty "str", _, .type "str", _, rfl, .ty _, tyQ p1, kitS x, q _ H1 k1 j1 (.bl _)⟩
theorem v_isT (hK : K = c.K) (h : Vw c Γ te x) : Vd c Γ (tCB (rIsi K) (tCons te (tCons (tC (.ty "tuple")) tNil))) (.bool (isT x)) := fun O H σ G Q q => by
  subst hK
  exact h O H σ G _ fun v H1 k1 j1 p1 => ⟨v, .ty "tuple", _, .type "tuple", _, rfl, .ty _, tyQ p1, kitT x, q _ H1 k1 j1 (.bl _)⟩
theorem v_isSeq (hK : K = c.K) (h : Vw c Γ te x) : Vd c Γ (tCB (rIsiT K) (tCons te (tCons (tTup (tCons (tC (.ty "list")) (tCons (tC (.ty "tuple")) tNil))) tNil))) (.bool (isSeq x)) := fun O H σ G Q q => by
  subst hK
  refine h O H σ G _ fun v H1 k1 j1 p1 => ⟨by show 2 ≤ sizeLine; decide, fun t ht => ?_⟩
  have p2 : Dq c.K c.M (upd H1 t (.tup [.ty "list", .ty "tuple"])) v x := p1.go (KS.new ht)
  have G2 := (G.go k1 j1).sameNew (.tup [.ty "list", .ty "tuple"]) ht
  refine ⟨v, t, _, .type (tyN x), [.type "list", .type "tuple"], isSeq x, rfl, upd_same, .cons (.ty _) (.cons (.ty _) .nil), tyQ p2, ?_, q _ _ (k1.trans (KS.new ht)) G2.j (.bl _)⟩
  cases x with
  | none => rfl
  | bool b => rfl
  | int i => rfl
  | str s => rfl
  | list ds => rfl
  | tuple ds => rfl
  | dict m => rfl
/-- len of a text -/
def rLenStr : List V → Hp → VK → Prop := fun xs H Q => ∃ z : Str, xs = [.str z] ∧ z.length ≤ sizeLine ∧ Q (.int z.length) H
theorem v_lenS (h : VAw c Γ tA [.str s]) (l : s.length ≤ sizeLine) : Vd c Γ (tCB (fun xs H Q => ∃ z : Str, xs = [.str z] ∧ z.length ≤ sizeLine ∧ Q (.int z.length) H) tA) (.int (s.length : Nat)) := fun O H σ G Q q => by
  refine h O H σ G _ fun vs H1 k1 j1 p1 => ?_
  cases p1 with
  | cons d r =>
    cases r
    cases d
    exact ⟨s, rfl, l, q _ H1 k1 j1 (.int _)⟩
/-- a <= b <= e -/
theorem v_chain {k : Int} {tc : TE} (ha : Vw c Γ ta (.int m)) (hb : Vw c Γ tb (.int n)) (hc : m ≤ n → Vw c Γ tc (.int k)) : Vd c Γ (tChain (rI0 fun i j => .bl (decide (i ≤ j))) (rI0 fun i j => .bl (decide (i ≤ j))) ta tb tc) (.bool (decide (m ≤ n) && decide (n ≤ k))) := fun O H σ G Q q => by
  refine ha O H σ G _ fun v H1 k1 j1 p1 => ?_
  cases p1
  refine hb O H1 σ (G.go k1 j1) _ fun u H2 k2 j2 p2 => ?_
  cases p2
  refine ⟨_, _, rfl, rfl, _, rfl, ?_⟩
  by_cases e : m ≤ n
  · rw [decide_eq_true e]
    refine iteT (hc e O H2 σ ((G.go k1 j1).go k2 j2) _ fun w H3 k3 j3 p3 => ?_)
    cases p3
    exact ⟨_, _, rfl, rfl, q _ H3 ((k1.trans k2).trans k3) j3 (by rw [decide_eq_true e, Bool.true_and]; exact .bl _)⟩
  · rw [decide_eq_false e]
    exact iteF (q _ H2 (k1.trans k2) j2 (by rw [decide_eq_false e, Bool.false_and]; exact .bl _))
/-- a < b, texts -/
theorem v_ltS (ha : Vw c Γ ta (.str s)) (hb : Vw c Γ tb (.str t)) : Vd c Γ (tOp (fun x y H Q => ∃ i j, x = .str i ∧ y = .str j ∧ Q (.bl (decide (i.cps.toList < j.cps.toList))) H) ta tb) (.bool (decide (s.cps.toList < t.cps.toList))) := v_opS (.str _) (.str _) (.bl _) ha hb fun H Q q => ⟨s, t, rfl, rfl, q⟩
/-- a sign in a text -/
theorem v_inSign {p : Nat} (ha : Vw c Γ ta (.str ⟨#[p]⟩)) (hb : Vw c Γ tb (.str t)) : Vd c Γ (tOp (fun x y H Q => ∃ (c : Nat) (z : Str), x = .str ⟨#[c]⟩ ∧ y = .str z ∧ Q (.bl (decide (c ∈ z.cps.toList))) H) ta tb) (.bool (decide (p ∈ t.cps.toList))) := v_opS (.str _) (.str _) (.bl _) ha hb fun H Q q => ⟨p, t, rfl, rfl, q⟩
/-! the set of some texts -/
theorem cr_setLK {X : Cx} {P : Program} {w : World} (hc : X.calm = true) (hK : X.K = K) (hP : X.prog = P) (hw : X.w = w) : CallR X (.type "set") (rSetT K P w) := by
  subst hK hP hw
  exact cr_setT hc
end
end L2.Da


namespace L2.Da
open PySem L2 L2.Bv L2.Ts
/-! ### any things handed over: contracts by entries -/
theorem Se.pure {c : Cf} {O : Own} {H : Hp} {e : Ent} {v : V} (f : e.fix) (h : Se c O H e v) (al : Al (DS c O) H) : Se (pureC c.K (DS c O) H al) [] H e v := by
  have sub : ∀ x, DS (pureC c.K (DS c O) H al) [] x → DS c O x := fun x z => z.elim id fun w => by cases w
  cases e with
  | d x => exact Dq.sub (S := DS c O) h sub
  | o D w => exact f.elim
  | p P => exact St'.sub sub h
theorem SeAll.pure {c : Cf} {O : Own} {H : Hp} (al : Al (DS c O) H) : ∀ {vs : List V} {es : List Ent}, (∀ e ∈ es, e.fix) → SeAll c O H vs es → SeAll (pureC c.K (DS c O) H al) [] H vs es
  | _, _, _, .nil => .nil
  | _, _, f, .cons a b => .cons (Se.pure (f _ List.mem_cons_self) a al) (SeAll.pure al (fun e h => f e (List.mem_cons_of_mem _ h)) b)
/-- the arguments are the es -/
def VE (c : Cf) (Γ : Gm) (ta : TA) (es : List Ent) : Prop := ∀ (O : Own) (H : Hp) (σ : St), Good c O H σ Γ → ∀ Q : List V → Hp → Prop, (∀ vs H', KS c.M H H' → c.J H' → SeAll c O H' vs es → Q vs H') → ta σ H Q
/-- a def that changes nothing -/
def spE (K : PySem.W.Frag) (R : List Ent → PyData → Prop) : Sp := fun vs H Q _ => ∃ (S : Addr → Prop) (al : Al S H) (es : List Ent) (d : PyData), SeAll (pureC K S H al) [] H vs es ∧ (∀ e ∈ es, e.fix) ∧ R es d ∧ ∀ v H', Same H H' → Dq K S H' v d → Q v H'
/-- a def that draws -/
def spED (K : PySem.W.Frag) (R : List Ent → PyData → Prop) : Sp := fun vs H Q _ => ∃ (dl cl : Addr) (vs' : List V) (S : Addr → Prop) (al : Al S H) (es : List Ent), vs = .ref dl :: vs' ∧ DealAt H dl cl ∧ S dl ∧ S cl ∧ SeAll (pureC K S H al) [] H vs' es ∧ (∀ e ∈ es, e.fix) ∧ (∃ d, R es d) ∧
  ∀ v H' d, R es d → DealAt H' dl cl → Keep dl cl H H' → Dq K S H' v d → Q v H'
section
variable {c : Cf} {Γ : Gm} {te ta tb : TE} {tA tk : TA} {x y : PyData} {ds ks : List PyData} {K : PySem.W.Frag} {i : Nat} {e : Ent} {es : List Ent} {E : XK} {R : List Ent → PyData → Prop}
theorem ve_nil : VE c Γ tNil [] := fun O H σ G Q q => q [] H KS.refl G.j .nil
theorem ve_cons (h : Ve c Γ ta e) (k : VE c Γ tA es) : VE c Γ (tCons ta tA) (e :: es) := fun O H σ G Q q => h O H σ G _ fun v H1 k1 j1 p1 => k O H1 σ (G.go k1 j1) _ fun vs H2 k2 j2 p2 => q _ H2 (k1.trans k2) j2 (.cons (Se.go (G.go k1 j1) k2 p1) p2)
theorem v_callE (hK : K = c.K) (h : VE c Γ tA es) (f : ∀ e ∈ es, e.fix) (r : R es x) : Vd c Γ (tCall (spE K R) [] E tA) x := fun O H σ G Q q => by
  subst hK
  refine h O H σ G _ fun vs H1 k1 j1 p1 => ?_
  have G1 := G.go k1 j1
  exact ⟨DS c O, G1.al, es, x, by rw [List.append_nil]; exact p1.pure G1.al f, f, r, fun v H' s dv => q v H' (k1.trans (KS.of s)) (G1.js' s) dv⟩
theorem v_callED {dl cl : Addr} (hd : HasDeal c dl cl) (hK : K = c.K) (hi : Γ[i]? = some (some (.p (isR dl)))) (h : VE c Γ tA es) (f : ∀ e ∈ es, e.fix) (r : ∃ d, R es d) : Vr c Γ (tCall (spED K R) [] E (tCons (tVar i) tA)) (R es) := fun O H σ G Q q => by
  subst hK
  obtain ⟨v, hv, se⟩ := G.at_ i _ hi
  obtain rfl : v = .ref dl := se.now
  refine ⟨_, hv, h O H σ G _ fun vs H1 k1 j1 p1 => ?_⟩
  have G1 := G.go k1 j1
  exact ⟨dl, cl, vs, DS c O, G1.al, es, by rw [List.append_nil], hd.get _ j1, .inl (c.sub _ hd.m1), .inl (c.sub _ hd.m2), p1.pure G1.al f, f, r, fun v H' d rd dd kk dv => q v H' (k1.trans (hd.ks kk)) (hd.put _ _ j1 kk dd) ⟨d, rd, dv⟩⟩
/-- at the start -/
theorem e_start {S : Addr → Prop} {H : Hp} {N : List Str} {vs : List V} (al : Al S H) (h : SeAll (pureC K S H al) [] H vs es) (f : ∀ e ∈ es, e.fix) : Good (pureC K S H al) [] H (start N vs) (startE N es) := gen_start rfl rfl rfl True.intro h f
theorem SeAll.toDeal {S : Addr → Prop} {H : Hp} {al : Al S H} {dl cl : Addr} {h1 : S dl} {h2 : S cl} : ∀ {vs : List V} {es : List Ent}, SeAll (pureC K S H al) [] H vs es → SeAll (dealC K S H al dl cl h1 h2) [] H vs es
  | _, _, .nil => .nil
  | _, _, .cons (e := e) a b => .cons (by cases e <;> exact a) b.toDeal
theorem ed_start {S : Addr → Prop} {H : Hp} {N : List Str} {vs : List V} {dl cl : Addr} (al : Al S H) (h1 : S dl) (h2 : S cl) (Dl : DealAt H dl cl) (h : SeAll (pureC K S H al) [] H vs es) (f : ∀ e ∈ es, e.fix) : Good (dealC K S H al dl cl h1 h2) [] H (start N (.ref dl :: vs)) (startE N (.p (isR dl) :: es)) :=
  gen_start rfl rfl rfl Dl (.cons (St'.pure (show isR dl H (.ref dl) from rfl)) h.toDeal) fun e he => by
    rcases List.mem_cons.mp he with rfl | he
    · exact True.intro
    · exact f e he
end
/-! ### a dict of lists of texts -/
inductive BelAll (H : Hp) : List (Key × V) → List (Str × List Str) → Prop
  | nil : BelAll H [] []
  | cons {k : Str} {l : Addr} {zs : List Str} {kvs : List (Key × V)} {m : List (Str × List Str)} : Rd H l (.lst (zs.map V.str)) → BelAll H kvs m → BelAll H ((.inr k, .ref l) :: kvs) ((k, zs) :: m)
/-- what the dict tells of a text -/
def getB (m : List (Str × List Str)) (k : Str) : Option (List Str) := (m.find? fun p => decide (p.1 = k)).map (·.2)
def isBelR (m : List (Str × List Str)) : Hp → V → Prop := fun H v => ∃ b kvs, v = .ref b ∧ Rd H b (.dK kvs) ∧ BelAll H kvs m
def isBel (m : List (Str × List Str)) : Hp → V → Prop := fun H v => ∃ b kvs, v = .ref b ∧ H b = some (.dK kvs) ∧ BelAll H kvs m
def isBelL (od : Obj) (m : List (Str × List Str)) : Hp → V → Prop := fun H v => ∃ b kvs, v = .ref b ∧ H b = some (.frz od (.dK kvs)) ∧ BelAll H kvs m
theorem rdSame {H H' : Hp} {a : Addr} {o : HO} (h : Rd H a o) (s : Same H H') : Rd H' a o := h.elim (fun e => .inl (s _ _ e)) fun ⟨od, e⟩ => .inr ⟨od, s _ _ e⟩
theorem BelAll.get {H : Hp} : ∀ {kvs : List (Key × V)} {m : List (Str × List Str)} {k : Str} {zs : List Str}, BelAll H kvs m → getB m k = some zs → ∃ l, valV kvs (Sum.inr k : Key) = some (.ref l) ∧ Rd H l (.lst (zs.map V.str))
  | _, _, _, _, .nil, e => by cases e
  | _, _, k, zs, .cons (k := k') (l := l) a b, e => by
    unfold getB at e
    unfold valV
    rw [List.find?_cons] at e ⊢
    by_cases c : k' = k
    · subst c
      rw [decide_eq_true rfl] at e
      rw [decide_eq_true rfl]
      cases e
      exact ⟨l, rfl, a⟩
    · rw [decide_eq_false c] at e
      rw [decide_eq_false fun z => c (Sum.inr.inj z)]
      exact b.get e
theorem BelAll.keys {H : Hp} : ∀ {kvs : List (Key × V)} {m : List (Str × List Str)} {i : Nat} {k : Key} {v : V}, BelAll H kvs m → kvs[i]? = some (k, v) → ∃ z zs, m[i]? = some (z, zs) ∧ k = .inr z
  | _, _, _, _, _, .nil, e => by cases e
  | _, _, 0, _, _, .cons _ _, e => by cases e; exact ⟨_, _, rfl, rfl⟩
  | _, _, i + 1, _, _, .cons _ b, e => b.keys (i := i) e
theorem BelAll.len {H : Hp} : ∀ {kvs : List (Key × V)} {m : List (Str × List Str)}, BelAll H kvs m → kvs.length = m.length
  | _, _, .nil => rfl
  | _, _, .cons _ b => congrArg (· + 1) b.len
/-- a dict, locked or not -/
def Bel (m : List (Str × List Str)) (P : Hp → V → Prop) : Prop := ∀ H v, P H v → isBelR m H v
theorem bel_is {m : List (Str × List Str)} : Bel m (isBel m) := fun _ _ ⟨b, kvs, e, h, r⟩ => ⟨b, kvs, e, .inl h, r⟩
theorem bel_L {m : List (Str × List Str)} {od : Obj} : Bel m (isBelL od m) := fun _ _ ⟨b, kvs, e, h, r⟩ => ⟨b, kvs, e, .inr ⟨od, h⟩, r⟩
section
variable {c : Cf} {Γ : Gm} {te ta tb : TE} {K : PySem.W.Frag} {i : Nat} {m : List (Str × List Str)} {P : Hp → V → Prop} {k : Str} {zs : List Str}
/-- d[k] -/
theorem v_bget (hi : Γ[i]? = some (some (.p P))) (hP : Bel m P) (hk : Vw c Γ ta (.str k)) (h : getB m k = some zs) : Vd c Γ (tDGet (tVar i) ta) (.list (zs.map .str)) := fun O H σ G Q q => by
  obtain ⟨v, hv, st⟩ := G.at_ i _ hi
  refine ⟨v, hv, hk O H σ G _ fun u H1 k1 j1 p1 => ?_⟩
  have G1 := G.go k1 j1
  obtain ⟨v', hv', st'⟩ := G1.at_ i _ hi
  rw [hv] at hv'
  cases hv'
  cases p1
  obtain ⟨b, kvs, rfl, hb, al⟩ := hP _ _ (St'.rest st')
  obtain ⟨l, e1, e2⟩ := al.get h
  have s : Same (rest (DS c O) H1) H1 := rest_same KS.refl
  exact ⟨b, .ref l, rfl, .inl ⟨kvs, .inr k, rdSame hb s, rfl, e1.symm⟩, q _ H1 k1 j1 (.lst (fun H2 k2 => rdSame e2 (rest_same k2)) (dqStrs zs))⟩
/-- its keys, the dict locked -/
theorem walk_keys {d : Addr} {o : Obj} {kvs : List (Key × V)} : Walk (Itk d o kvs) kvs.length (fun H => H d = some (.frz o (.dK kvs))) fun i H x H' => H' = H ∧ ∃ k v, kvs[i]? = some (k, v) ∧ x = kV k :=
  ⟨fun i H lt h => ⟨h, lt⟩, fun H h => ⟨h, Nat.le_refl _⟩, fun i H x H' _ _ y => y⟩
theorem vi_keys {od : Obj} (hi : Γ[i]? = some (some (.p (isBelL od m)))) : VI c Γ (iKeys (tVar i)) (m.map fun p => .str p.1) := fun O H σ G R q => by
  obtain ⟨v, hv, st⟩ := G.at_ i _ hi
  obtain ⟨b, kvs, rfl, hb, al⟩ := St'.rest (show St' (DS c O) H fun H' => isBelL od m H' v from st)
  obtain ⟨nb, eb⟩ := rest_get hb
  refine ⟨_, hv, b, od, rfl, .inl ⟨kvs, eb, ?_⟩⟩
  refine q _ _ _ H KS.refl G.j (by rw [List.length_map, ← al.len]; exact walk_keys) (fun H' k' => k' b _ nb eb) ?_
  rintro S' j H2 v2 H3 hS k2 al2 lt ⟨e3, kk, vv, ej, ev⟩
  obtain ⟨z, zs', em, rfl⟩ := al.keys ej
  subst e3 ev
  exact ⟨Same.refl _, .str z, by rw [List.getElem?_map, em]; rfl, .str z⟩
end
/-! ### a dict is locked for a while -/
section
variable {K : PySem.W.Frag} {S : Addr → Prop} {H : Hp} {b : Addr} {u1 u2 : HO}
theorem stSim {P P' : Hp → Prop} (h : St' S H P) (n : ¬ S b) (e : H b = some u1) (f : ∀ H', H' b = some u1 → P H' → P' (upd H' b u2)) : St' S (upd H b u2) P' := fun H2 k => by
  have e2 : H2 b = some u2 := k b u2 n upd_same
  have z := f (upd H2 b u1) upd_same (h (upd H2 b u1) fun x o nx ex => ?_)
  · have back : upd (upd H2 b u1) b u2 = H2 := by
      funext y
      by_cases c : y = b
      · rw [c, upd_same, e2]
      · rw [upd_ne c, upd_ne c]
    rw [back] at z
    exact z
  · by_cases c : x = b
    · subst c
      rw [e] at ex
      cases ex
      exact upd_same
    · rw [upd_ne c]
      refine k x o nx ?_
      rw [upd_ne c]
      exact ex
/-- a dict, locked or not -/
def Dct : HO → Prop
  | .dK _ => True
  | .frz _ (.dK _) => True
  | _ => False
theorem rdSim {H' : Hp} {a : Addr} {xs : List V} (d1 : Dct u1) (e : H' b = some u1) (h : Rd H' a (.lst xs)) : Rd (upd H' b u2) a (.lst xs) := by
  have ne : a ≠ b := fun z => by
    subst z
    rcases h with h | ⟨o, h⟩ <;> rw [e] at h <;> cases h <;> exact d1
  rcases h with h | ⟨o, h⟩
  · exact .inl (by rw [upd_ne ne]; exact h)
  · exact .inr ⟨o, by rw [upd_ne ne]; exact h⟩
theorem sqSim {H' : Hp} {a : Addr} {xs : List V} (d1 : Dct u1) (e : H' b = some u1) (h : SqT K H' a xs) : SqT K (upd H' b u2) a xs := by
  rcases h with (h | ⟨o, h⟩) | h
  · have ne : a ≠ b := fun z => by
      subst z
      rw [e] at h
      cases h
      exact d1
    exact .inl (.inl (by rw [upd_ne ne]; exact h))
  · have ne : a ≠ b := fun z => by
      subst z
      rw [e] at h
      cases h
      exact d1
    exact .inl (.inr ⟨o, by rw [upd_ne ne]; exact h⟩)
  · exact .inr h
mutual
theorem Dq.sim (d1 : Dct u1) (n : ¬ S b) (e : H b = some u1) : ∀ {v : V} (d : PyData), Dq K S H v d → Dq K S (upd H b u2) v d
  | _, .none, h => by cases h; exact .non
  | _, .bool _, h => by cases h; exact .bl _
  | _, .int i, h => by cases h; exact .int i
  | _, .str x, h => by cases h; exact .str x
  | _, .list ds, h => by
    cases h with
    | lst h1 h2 => exact .lst (stSim h1 n e fun H' e' z => rdSim d1 e' z) (DqAll.sim d1 n e ds h2)
  | _, .tuple ds, h => by
    cases h with
    | tup h1 h2 => exact .tup (stSim h1 n e fun H' e' z => sqSim d1 e' z) (DqAll.sim d1 n e ds h2)
  | _, .dict kvs, h => by cases h
theorem DqAll.sim (d1 : Dct u1) (n : ¬ S b) (e : H b = some u1) : ∀ {vs : List V} (ds : List PyData), DqAll K S H vs ds → DqAll K S (upd H b u2) vs ds
  | _, [], h => by cases h; exact .nil
  | _, d :: r, h => by
    cases h with
    | cons h1 h2 => exact .cons (Dq.sim d1 n e d h1) (DqAll.sim d1 n e r h2)
end
theorem belSim {H' : Hp} (d1 : Dct u1) (e : H' b = some u1) : ∀ {kvs : List (Key × V)} {m : List (Str × List Str)}, BelAll H' kvs m → BelAll (upd H' b u2) kvs m
  | _, _, .nil => .nil
  | _, _, .cons a r => .cons (rdSim d1 e a) (belSim d1 e r)
end
end L2.Da


namespace L2.Da
open PySem PySem.Spec L2 L2.Bv L2.Pc L2.Ts L2.K2 PyProof.Rows
/-! ### texts, sorted -/
def leS (a b : Str) : Bool := !ltCps b.cps.toList a.cps.toList
theorem leS_iff {a b : Str} : leS a b = true ↔ ¬ b.cps.toList < a.cps.toList := by
  unfold leS
  rw [ltCps_eq]
  by_cases h : b.cps.toList < a.cps.toList <;> simp [h]
theorem leS_trans (a b c : Str) (h : leS a b = true) (k : leS b c = true) : leS a c = true := by
  rw [leS_iff] at *
  exact List.not_lt.mpr (List.le_trans (List.not_lt.mp h) (List.not_lt.mp k))
theorem leS_total (a b : Str) : (leS a b || leS b a) = true := by
  rw [Bool.or_eq_true, leS_iff, leS_iff]
  rcases List.le_total a.cps.toList b.cps.toList with h | h
  · exact .inl (List.not_lt.mpr h)
  · exact .inr (List.not_lt.mpr h)
theorem leS_anti {a b : Str} (h : leS a b = true) (k : leS b a = true) : a = b := by
  rw [leS_iff] at *
  have e : a.cps.toList = b.cps.toList := List.le_antisymm (List.not_lt.mp h) (List.not_lt.mp k)
  rw [← chS_of a, ← chS_of b, e]
def srt (xs : List Str) : List Str := xs.mergeSort leS
theorem srt_perm (xs : List Str) : (srt xs).Perm xs := List.mergeSort_perm xs leS
theorem pw_of_sorted {zs : List Str} (h : sortedS zs = true) : zs.Pairwise fun a b => leS a b = true := by
  have p : zs.Pairwise fun a b => ¬ b.cps.toList < a.cps.toList := by
    cases zs with
    | nil => exact List.Pairwise.nil
    | cons x r => exact L2.K2.risingS_pair r x h
  exact p.imp fun {a b} q => leS_iff.mpr q
theorem sorted_uniq : ∀ {xs ys : List Str}, xs.Perm ys → xs.Pairwise (fun a b => leS a b = true) → ys.Pairwise (fun a b => leS a b = true) → xs = ys
  | [], ys, p, _, _ => (List.nil_perm.mp p).symm
  | x :: xs, [], p, _, _ => absurd p.length_eq (by simp)
  | x :: xs, y :: ys, p, hx, hy => by
    have e : x = y := by
      have m1 : x ∈ y :: ys := p.mem_iff.mp List.mem_cons_self
      have m2 : y ∈ x :: xs := p.mem_iff.mpr List.mem_cons_self
      rcases List.mem_cons.mp m1 with z | z
      · exact z
      · rcases List.mem_cons.mp m2 with w | w
        · exact w.symm
        · exact leS_anti ((List.pairwise_cons.mp hx).1 y w) ((List.pairwise_cons.mp hy).1 x z)
    subst e
    rw [sorted_uniq ((List.perm_cons x).mp p) (List.pairwise_cons.mp hx).2 (List.pairwise_cons.mp hy).2]
theorem srt_pw (xs : List Str) : (srt xs).Pairwise fun a b => leS a b = true := List.pairwise_mergeSort leS_trans leS_total xs
theorem srt_sorted (xs : List Str) : sortedS (srt xs) = true := sortedS_of_pairwise _ ((srt_pw xs).imp fun {a b} h => by
  unfold leS at h
  cases q : ltCps b.cps.toList a.cps.toList with
  | false => rfl
  | true => rw [q] at h; cases h)
theorem srt_eq {zs xs : List Str} (p : zs.Perm xs) (h : sortedS zs = true) : zs = srt xs := sorted_uniq (p.trans (srt_perm xs).symm) (pw_of_sorted h) (srt_pw xs)
theorem srt_congr {xs ys : List Str} (p : xs.Perm ys) : srt xs = srt ys := sorted_uniq ((srt_perm xs).trans (p.trans (srt_perm ys).symm)) (srt_pw xs) (srt_pw ys)
theorem srt_mem {xs : List Str} {z : Str} : z ∈ srt xs ↔ z ∈ xs := (srt_perm xs).mem_iff
theorem srt_len (xs : List Str) : (srt xs).length = xs.length := (srt_perm xs).length_eq
section
variable {c : Cf} {Γ : Gm} {te ta tb : TE} {tA : TA} {K : PySem.W.Frag} {xs : List Str}
theorem sortSK {X : Cx} (hK : X.K = K) : CallR X (.builtin "sorted") (rSortedS K) := hK ▸ cr_sortedS
theorem f_sortL (hK : K = c.K) (h : VAw c Γ tA [.list (xs.map .str)]) (l : xs.length < 64) : Vf c Γ (tCB (rSortedS K) tA) (· = (srt xs).map .str) := fun O H σ G Q q => by
  subst hK
  refine h O H σ G _ fun vs H1 k1 j1 p1 => ?_
  have G1 := G.go k1 j1
  cases p1 with
  | cons a b =>
    cases b
    cases a with
    | lst h1 h2 =>
      have e := dqStrs_inv xs h2
      subst e
      refine ⟨_, xs, rfl, sqLRd h1.now, l, fun ys p pm so hp => ?_⟩
      have e := srt_eq pm so
      subst e
      exact q p _ _ H1 _ rfl k1 j1 hp rfl (by rw [List.length_map, srt_len]; exact small64 l) (dqStrs _)
end
end L2.Da
namespace L2.K2
open PySem L2 L2.Bv L2.Pc L2.Ts L2.Da PyProof.Rows Bov LamX
abbrev sAll : Stmt := top 54
theorem scAl : FnScope ["below", "lot", "name", "one"] ["below", "lot"] (defScope sAll) := ⟨rfl, rfl, rfl, by decide +kernel, rfl, by decide +kernel, by decide +kernel⟩
/-- the names under some of the lot -/
def allB (m : List (Str × List Str)) (lot : List Str) : List Str := srt ((m.map (·.1)).filter fun k => lot.any fun o => decide (k ∈ (getB m o).getD []))
def rAl (es : List Ent) (d : PyData) : Prop := ∃ (m : List (Str × List Str)) (lot : List Str) (y : PyData), es = [.p (isBel m), .d y] ∧ (y = .list (lot.map .str) ∨ y = .tuple (lot.map .str)) ∧ m.length < 64 ∧ lot.length ≤ 1000 ∧ (∀ z ∈ lot, (∃ bs, getB m z = some bs) ∧ IsNm z) ∧ d = .tuple ((allB m lot).map .str)
theorem neNil {α : Type} (p : α → Bool) (l : List α) : (!(l.filter p).isEmpty) = l.any p := by
  induction l with
  | nil => rfl
  | cons a r ih =>
    rw [List.filter_cons, List.any_cons]
    by_cases h : p a = true
    · rw [if_pos h, h]
      rfl
    · rw [if_neg h, ih, eq_false_of_ne_true h]
      rfl
theorem eqvNil {xs : List Str} : PyData.eqv (.list (xs.map .str)) (.list []) = xs.isEmpty := by
  cases xs <;> rfl
theorem vi_seq {c : Cf} {Γ : Gm} {te : TE} {K : PySem.W.Frag} {y : PyData} {xs : List PyData} (hK : K = c.K) (h : Vd c Γ te y) (hy : y = .list xs ∨ y = .tuple xs) : VI c Γ (fun σ H R => iList K te σ H R ∨ iTup K te σ H R) xs := by
  rcases hy with rfl | rfl
  · exact fun O H σ G R q => .inl (vi_list hK h O H σ G R q)
  · exact fun O H σ G R q => .inr (vi_tup hK h O H σ G R q)
theorem eitherK {X : Cx} {tg l : Expr} {te : TE} {K : PySem.W.Frag} (hK : X.K = K) (h : PE X l te) : PI X tg l (fun σ H R => iList K te σ H R ∨ iTup K te σ H R) := by
  subst hK
  exact pi_either (pi_list h) (pi_tup h)
section
variable {P : Program} {w : World} {K : PySem.W.Frag} {mg : Str → Option Value} {base : Heap}
theorem ok_all {f : Addr} {fd : FuncData} (F : Fun K "_law_all" "_law_all" sAll f fd) (mt : mg "tuple" = none) (mS : mg "sorted" = none) : FnOk P w K mg base CX0 1 f fd ["below", "lot"] (spE K rAl) := by
  refine F.ok scAl (fun vs H Q E h => ?_) (fun cdv A outer s H vs Q E hr h => ?_)
  · obtain ⟨S, al, es, d, sa, fx, ⟨m, lot, y, rfl, _⟩, q⟩ := h
    exact sa.length
  obtain ⟨S, al, es, d, sa, fx, ⟨m, lot, y, rfl, hy, l64, l1000, hl, rfl⟩, q⟩ := h
  have hu := hu_of hr
  have hu2 := hr.units
  refine ⟨_, pss_one (ps_lock (ps_ret (pe_callTy (tupOfK (K := K) rfl) (by rfl) mt (by decide +kernel) (pa_cons (pe_callB (sortSK (K := K) rfl) (by rfl) mS (by decide +kernel) (pa_cons (pe_lc (own := [("name", 2)]) (g := gName 2) (tt := _) rfl scAl.nd (pi_keys (pv 0)) (blkOk_by (N := ["below", "lot", "name", "one"]) (sc := defScope sAll) (by decide +kernel)) (fun _ _ _ _ _ => pg_name (i := 2) scAl.nd rfl (Or.inr rfl))
    (fun _ _ _ _ _ => pts_one (pt_cmpR (neDK (K := K) rfl hu2) (pe_lc (own := [("one", 3)]) (g := gName 3) (tt := _) rfl scAl.nd (eitherK (K := K) rfl (pv 1)) (blkOk_by (N := ["below", "lot", "name", "one"]) (sc := relSc (defScope sAll) (lcSc (arg0 (arg0 (retOf sAll))))) (by decide +kernel)) (fun _ _ _ _ _ => pg_name (i := 3) scAl.nd rfl (Or.inl rfl))
      (fun _ _ _ _ _ => pts_one (pt_cmpR (inSeqK (K := K) rfl) (pv 2) (pe_dget hu (pv 0) (pv 3) (fun _ _ => rfl)) (by rfl))) (fun _ _ _ _ _ => pv 3)) (pe_lst pa_nil) (by rfl)))
    (fun _ _ _ _ _ => pv 2)) pa_nil)) pa_nil)))), ?_⟩
  -- the dict
  cases sa with
  | cons s0 s1 =>
    cases s1 with
    | cons s1 s2 =>
      cases s2
      rename_i v0 v1
      have st : St' S H fun H' => isBel m H' v0 := St'.sub (fun x z => .inl z) s0
      have dy : Dq K S H v1 y := Dq.sub s1 fun x z => .inl z
      obtain ⟨b, kvs, rfl, hb, ba⟩ := St'.rest st
      obtain ⟨nS, eb⟩ := rest_get hb
      refine ⟨b, _, eb, True.intro, fun od => ?_⟩
      have alL : Al S (upd H b (.frz od (.dK kvs))) := fun x hx z => by
        by_cases c : x = b
        · rw [c] at hx
          exact nS hx
        · rw [upd_ne c] at z
          exact al x hx z
      have dL : Dq K S (upd H b (.frz od (.dK kvs))) v1 y := Dq.sim (u1 := .dK kvs) True.intro nS eb y dy
      have sL : St' S (upd H b (.frz od (.dK kvs))) fun H' => isBelL od m H' (.ref b) := stSim st nS eb fun H' e' ⟨b', kvs', q1, q2, q3⟩ => by
        cases q1
        rw [e'] at q2
        cases q2
        exact ⟨b, kvs, rfl, upd_same, belSim (u1 := .dK kvs) True.intro e' q3⟩
      have G : Good (pureC K S _ alL) [] _ (start ["below", "lot", "name", "one"] [.ref b, v1]) (startE ["below", "lot", "name", "one"] [.p (isBelL od m), .d y]) := e_start alL (.cons (St'.sub (fun x z => z.elim id fun q => by cases q) sL) (.cons (Dq.sub (S := S) dL fun x z => z.elim id fun q => by cases q) .nil)) fun e he => by
        rcases List.mem_cons.mp he with rfl | he
        · exact True.intro
        · rw [List.mem_singleton.mp he]
          exact True.intro
      refine s_ret G (x := .tuple ((allB m lot).map .str)) ?_ fun v H' k _ d => ?_
      · have e1 : ((m.filter fun p => lot.any fun o => decide (p.1 ∈ (getB m o).getD [])).map fun p => PyData.str p.1) = (((m.map (·.1)).filter fun k => lot.any fun o => decide (k ∈ (getB m o).getD [])).map .str) := by
          rw [List.filter_map, List.map_map]
          rfl
        refine v_tupL rfl (va_cons ((f_sortL (xs := (m.map (·.1)).filter fun k => lot.any fun o => decide (k ∈ (getB m o).getD [])) rfl (VA.w (va_cons ((lc_f (as := m) (ea := fun p => .str p.1) (f := fun p => .str p.1) (p := fun p => lot.any fun o => decide (p.1 ∈ (getB m o).getD [])) (vi_keys rfl) (szOf (by omega)) (tg_name 2) (by simp) (fun p hp => ?_) fun p hp _ => v_vd (x := .str p.1) rfl).eq e1).d va_nil)) ?_).d) va_nil)
        · refine (t_B (v_neD (x := .list ((lot.filter fun o => decide (p.1 ∈ (getB m o).getD [])).map .str)) (y := .list []) ((lc_f (as := lot) (ea := .str) (f := .str) (p := fun o => decide (p.1 ∈ (getB m o).getD [])) (vi_seq rfl (v_vd (x := y) rfl) hy) (szOf (by omega)) (tg_name 3) (by simp) (fun o ho => ?_) fun o ho _ => v_vd (x := .str o) rfl).d.w) (v_lst va_nil (Nat.zero_le _)).w (shStrs fun z hz => (hl z (List.mem_filter.mp hz).1).2) rfl).w).eq ?_
          · obtain ⟨⟨bs, hb⟩, _⟩ := hl o ho
            refine (t_B (v_inL rfl (v_vd (x := .str p.1) rfl).w (v_bget (zs := bs) rfl bel_L (v_vd (x := .str o) rfl).w hb).w).w).eq ?_
            rw [hb]
            rfl
          · rw [eqvNil, neNil]
        · exact Nat.lt_of_le_of_lt (List.length_filter_le _ _) (by rw [List.length_map]; exact l64)
      · have sm : Same (upd H b (.frz od (.dK kvs))) H' := KS.same k
        have e' := sm _ _ upd_same
        refine ⟨e', q v _ (fun x o ex => ?_) (Dq.sim (u1 := .frz od (.dK kvs)) True.intro nS e' _ d)⟩
        by_cases c : x = b
        · subst c
          rw [eb] at ex
          cases ex
          exact upd_same
        · rw [upd_ne c]
          exact sm x o (by rw [upd_ne c]; exact ex)
end
end L2.K2


namespace L2.Da
open PySem L2 L2.Bv L2.Ts
/-- a def that may raise, where it doesn't -/
theorem dnX {P : Program} {w : World} {K : PySem.W.Frag} {mg : Str → Option Value} {base : Heap} {k : Nat} {f : Addr} {fd : FuncData} {ps : List Str} {sp sp' : Sp} (F : FnOk P w K mg base (L2.CX P w) k f fd ps sp) (h : ∀ vs H Q E, sp' vs H Q E → sp vs H Q E0) : FnOk P w K mg base CX0 k f fd ps sp' := by
  refine ⟨fun vs H Q E q => F.len vs H Q E0 (h _ _ _ _ q), fun A outer s H args us vs Q E hr he hb hv hs => ?_⟩
  refine codeAny_mono (F.run A outer s H args us vs Q E0 hr he hb hv (h _ _ _ _ hs)) fun r s' z => ?_
  cases r with
  | error e =>
    obtain ⟨_, _, _, _, _, _, _, _, _, _, _, _, z⟩ := z
    exact z.elim
  | ok v => cases v <;> exact z
section
variable {c : Cf} {Γ : Gm} {te ta tb : TE} {tA tB' : TA} {x y z : PyData} {xs ys : List PyData} {K : PySem.W.Frag}
theorem zipd_get {i : Nat} {x y : PyData} (h : xs[i]? = some x) (k : ys[i]? = some y) : (zipd xs ys)[i]? = some (.tuple [x, y]) := by
  unfold zipd
  rw [List.getElem?_map, List.getElem?_zip_eq_some.mpr (show xs[i]? = some (x, y).1 ∧ ys[i]? = some (x, y).2 from ⟨h, k⟩)]
  rfl
theorem zipd_len : (zipd xs ys).length = min xs.length ys.length := by
  unfold zipd
  rw [List.length_map, List.length_zip]
theorem zipK {X : Cx} {e e2 : Expr} {ta : TA} {p pos tpos : Pos} {elts : List Expr} {kk : Nat} (hK : X.K = K) (hg : Gl X "zip") (hm : X.mg "zip" = none) (ha : PA X [e, e2] ta)
    (hs : starEach [e, e2] X.env = (false, eval e X.env) :: starEach [e2] X.env := by rfl) (hpl : (backTo pos (starEach [e2] X.env)).any (·.1) = false := by rfl) : PI X (.Tuple elts kk tpos) (.Call (.Name "zip" p) [e, e2] [] pos) (iZip K ta) := hK ▸ pi_zip hg hm ha hs hpl
theorem vi_zipL (hK : K = c.K) (h : VA c Γ tA [.list xs, .list ys]) : VI c Γ (iZip K tA) (zipd xs ys) := fun O H σ G R q => by
  subst hK
  refine h O H σ G _ fun us H1 k1 j1 p1 => ?_
  cases p1 with
  | cons d r =>
    cases r with
    | cons d2 r =>
      cases r
      cases d with
      | @lst a vs _ h1 h2 =>
        cases d2 with
        | @lst b ws _ g1 g2 =>
          refine ⟨a, b, vs, ws, rfl, sqLRd h1.now, sqLRd g1.now, q _ (fun H2 => SqL c.K H2 a vs ∧ SqL c.K H2 b ws) _ H1 k1 j1 (by rw [zipd_len, ← h2.length, ← g2.length]; exact walk_zip rfl) (fun H2 k => ⟨sqLRd (h1.go k).now, sqLRd (g1.go k).now⟩) fun S i H2 v H3 hS k al hi y => ?_⟩
          obtain ⟨T, xv, yv, y1, y2, y3, y4, y5⟩ := y
          obtain ⟨d, e1, e2⟩ := h2.get y4
          obtain ⟨d', e1', e2'⟩ := g2.get y5
          obtain ⟨s, dd⟩ := dqPair (K := c.K) al y2 y3 y1 (Dq.mv (.ext hS k) d e2) (Dq.mv (.ext hS k) d' e2')
          exact ⟨s, _, zipd_get e1 e1', dd⟩
/-- unlike reprs -/
theorem t_reprNe (hK : K = c.K) (ha : VAw c Γ tA [x]) (hb : VAw c Γ tB' [x]) (s : Shn x) : Td c Γ (tB (tOp rNe (tCB (rRepr K) tA) (tCB (rRepr K) tB'))) false := (t_B (v_neS (v_repr hK ha s).w (v_repr hK hb s).w).w).eq (by rw [decide_eq_true rfl]; rfl)
theorem v_reprEq (hK : K = c.K) (ha : VAw c Γ tA [x]) (hb : VAw c Γ tB' [x]) (s : Shn x) : Vd c Γ (tOp rEq (tCB (rRepr K) tA) (tCB (rRepr K) tB')) (.bool true) := (v_eqS (v_repr hK ha s).w (v_repr hK hb s).w).eq (by rw [decide_eq_true rfl])
end
end L2.Da
namespace L2.K2
open PySem L2 L2.Bv L2.Pc L2.Ts L2.Da PyProof.Rows Bov LamX
theorem fitStr {z : Str} (h : IsNm z) : Fit 0 8 (.str z) := ⟨by
  simp only [PyData.leavesShort, List.all_eq_true, decide_eq_true_eq]
  intro c hc
  have m := h.2.2 c hc
  have all : ∀ c ∈ lowCs, c < 16 ^ 8 := by decide +kernel
  exact all c m, by simp [PyData.showable], by simp [PyData.hasDict], by simp [PyData.depth], by
  simp only [PyData.bulk]
  exact h.2.1⟩
theorem fitBl (b : Bool) : Fit 0 8 (.bool b) := ⟨by simp [PyData.leavesShort], by simp [PyData.showable], by simp [PyData.hasDict], by simp [PyData.depth], by simp [PyData.bulk]⟩
theorem Fit.shn {k b : Nat} {d : PyData} (h : Fit k b d) (h1 : k ≤ 60 := by decide) (h2 : b ≤ 1000000 := by decide) : Shn d := ⟨h.shows, h.plain, Nat.le_trans h.deep h1, h.len h2⟩
theorem fitStrs {zs : List Str} (h : ∀ z ∈ zs, IsNm z) (l : zs.length ≤ 64) : Fit 1 (64 * 9) (.tuple (zs.map .str)) := fitTup (k := 0) (b := 8) (fun d hd => by
  obtain ⟨z, hz, rfl⟩ := List.mem_map.mp hd
  exact fitStr (h z hz)) (by rw [List.length_map]; exact l)
theorem plainX {P : Program} {w : World} {K : PySem.W.Frag} {mg : Str → Option Value} {base : Heap} {C CN : Addr} {k : Nat} {f : Addr} {fd : FuncData} {ps : List Str} {R : PkW → List PyData → PyData → Prop} {R' : PkW → List PyData → Str → Prop} (F : FnOk P w K mg base (L2.CX P w) k f fd ps (spX K C CN R R')) : FnOk P w K mg base CX0 k f fd ps (spN K C R) := dnX F spN_X
abbrev sLu : Stmt := top 35
theorem scLu : FnScope ["pact", "one", "other", "number"] ["pact", "one", "other"] (defScope sLu) := ⟨rfl, rfl, rfl, by decide +kernel, rfl, by decide +kernel, by decide +kernel⟩
def rLi (w : PkW) (ds : List PyData) (d : PyData) : Prop := ∃ i j, i < w.ns.length ∧ j < w.ns.length ∧ ds = [.str (nameAt w.ns i), .str (nameAt w.ns j)] ∧ d = .bool (und w.ns i j)
def rLiX (w : PkW) (ds : List PyData) (z : Str) : Prop := NoNt w.ns z ∧ ((∃ y : Str, ds = [.str z, .str y]) ∨ ∃ i, i < w.ns.length ∧ ds = [.str (nameAt w.ns i), .str z])
abbrev sHr : Stmt := top 55
abbrev nHr : List Str := ["pact", "hands", "notes", "ready", "whole", "hand", "due", "row", "keys", "name", "owner", "waits"]
theorem scHr : FnScope nHr ["pact", "hands", "notes", "ready", "whole"] (defScope sHr) := ⟨rfl, rfl, rfl, by decide +kernel, rfl, by decide +kernel, by decide +kernel⟩
def strL (zs : List Str) : PyData := .list (zs.map .str)
def strT (zs : List Str) : PyData := .tuple (zs.map .str)
noncomputable def notesD (ns : List Nt) : PyData := .list ((List.range ns.length).map (ntD ns))
def rHr (K : PySem.W.Frag) (C : Addr) (es : List Ent) (d : PyData) : Prop := ∃ w, PkFix w ∧ es = [.p (isPk K C w), .d (strL w.hs), .d (notesD w.ns), .d (strL w.rs), .d (strT (lotM w w.wm))] ∧ d = .bool true
theorem lotM_sub {w : PkW} (F : PkFix w) {m : Nat} {z : Str} (h : z ∈ lotM w m) : ∃ i, i < w.ns.length ∧ nameAt w.ns i = z := F.names.mp (List.mem_filter.mp h).1
theorem lotM_nm {w : PkW} (F : PkFix w) {m : Nat} : ∀ z ∈ lotM w m, IsNm z := fun z h => by
  obtain ⟨i, li, rfl⟩ := lotM_sub F h
  exact F.ok.nms i li
theorem lotM_len {w : PkW} (F : PkFix w) {m : Nat} : (lotM w m).length ≤ 40 := Nat.le_trans (List.length_filter_le _ _) (by rw [F.zlen]; exact F.ok.forty)
theorem lotM_mem {w : PkW} (F : PkFix w) {m i : Nat} (li : i < w.ns.length) : nameAt w.ns i ∈ lotM w m ↔ m.testBit i = true := by
  unfold lotM
  rw [List.mem_filter, numOf_name F.ok.nt li]
  exact ⟨fun h => h.2, fun h => ⟨F.names.mpr ⟨i, li, rfl⟩, h⟩⟩
section
variable {P : Program} {w0 : World} {K : PySem.W.Frag} {mg : Str → Option Value} {base : Heap} {C CN : Addr}

theorem ok_lu {f : Addr} {fd : FuncData} (T : PcK K C) (F : Fun K "lies_under" "lies_under" sLu f fd) {gN : Addr} {fdN : FuncData} (N : FnOk P w0 K mg base (L2.CX P w0) 3 gN fdN ["pact", "note"] (spX K C CN rNum rNumX)) (kN : PySem.W.keepIn K (.ref gN) = true) (bN : Binds K fdN ["pact", "note"] []) (mN : mg "note_number" = some (.ref gN)) : FnOk P w0 K mg base (L2.CX P w0) 4 f fd ["pact", "one", "other"] (spX K C CN rLi rLiX) := by
  refine F.okX scLu (fun vs H Q E h => ?_) (fun cdv A outer s H vs Q E hr h => ?_)
  · obtain ⟨S, w, vs', ds, e0, al, F, st, da, q⟩ := h
    have e1 : ds.length = 2 := by
      rcases q with ⟨d, ⟨i, j, li, lj, e2, e3⟩, q⟩ | ⟨z, ⟨no, ⟨y, e2⟩ | ⟨i, li, e2⟩⟩, q⟩ <;> subst e2 <;> rfl
    subst e0
    exact len_of_dq da e1
  obtain ⟨S, w, vs', ds, e0, al, F, st, da, q⟩ := h
  subst e0
  refine ⟨_, pss_cons (ps_set (i := 3) scLu.nd rfl (Or.inl rfl) (pe_call (E := E) N hr rfl mN kN bN .nil (passes_call (takes_of rfl rfl rfl rfl) fun _ _ _ _ h => h) (pa_cons (pv 0) (pa_cons (pv 1) pa_nil)))) (pss_one (ps_ret (pe_cmpR op_eq (pe_op op_and (pe_op op_shr (pe_ix (ixTupK (K := K) rfl) (pe_fldK (K := K) rfl (pv 0) rfl) (pe_call (E := E) N hr rfl mN kN bN .nil (passes_call (takes_of rfl rfl rfl rfl) fun _ _ _ _ h => h) (pa_cons (pv 0) (pa_cons (pv 2) pa_nil))) (fun _ _ => rfl)) (pv 3)) pe_int) pe_int (nomark _)))), ?_⟩
  have G := pk_start (N := ["pact", "one", "other", "number"]) al st da
  rcases q with ⟨d, ⟨i, j, li, lj, e2, e3⟩, q⟩ | ⟨z, ⟨no, ⟨y, e2⟩ | ⟨i, li, e2⟩⟩, q⟩
  · subst e2 e3
    refine seq (s_set (x := nD i) G (v_callX rfl rfl F (va_cons (v_vd rfl) va_nil) ⟨i, li, rfl, rfl⟩) fun σ' H' G => ?_)
    refine s_ret G ((v_eqI (v_bit (wm := w.ms.getD j 0) (k := i) (v_ixT rfl (v_unders T F rfl rfl) (v_callX rfl rfl F (va_cons (v_vd (x := .str (nameAt w.ns j)) rfl) va_nil) ⟨j, lj, rfl, rfl⟩).w (ixMs F lj)).w (v_vd (x := nD i) rfl).w).w (v_int 1).w).eq ?_) (pure_end q)
    rw [und_bit F.mo lj]
    cases und w.ns i j <;> rfl
  · subst e2
    exact seq (sn_set G (v_callO rfl rfl F (va_cons (v_vd rfl) va_nil) ⟨rfl, no⟩ fun O H' σ G => odd_go q (KS.same G.ks)))
  · subst e2
    refine seq (s_set (x := nD i) G (v_callX rfl rfl F (va_cons (v_vd rfl) va_nil) ⟨i, li, rfl, rfl⟩) fun σ' H' G => ?_)
    exact sn_ret G (vn_op1 (vn_op1 (vn_op1 (vn_op2 (v_unders T F rfl rfl).w (v_callO rfl rfl F (va_cons (v_vd (x := .str z) rfl) va_nil) ⟨rfl, no⟩ fun O H' σ G => odd_go q (KS.same G.ks))))))
end
end L2.K2


namespace L2.K2
open PySem L2 L2.Bv L2.Pc L2.Ts L2.Da PyProof.Rows Bov LamX
/-! ### a hand's notes, of the whole paper first -/
theorem filter_prefix {α : Type} {p : α → Bool} : ∀ {l : List α}, l.Pairwise (fun a b => p b = true → p a = true) → l.filter p = l.take (l.filter p).length
  | [], _ => rfl
  | a :: r, h => by
    rw [List.filter_cons]
    by_cases c : p a = true
    · rw [if_pos c, List.length_cons, List.take_succ_cons, ← filter_prefix (List.pairwise_cons.mp h).2]
    · rw [if_neg c]
      have e : r.filter p = [] := List.filter_eq_nil_iff.mpr fun b hb hp => c ((List.pairwise_cons.mp h).1 b hb hp)
      rw [e]
      rfl
theorem whole_down {w : PkW} (F : PkFix w) {i j : Nat} (u : Und w.ns i j) (h : w.wm.testBit j = true) : w.wm.testBit i = true := by
  obtain ⟨k, lk, hk, uk⟩ := (F.wb j).mp h
  exact (F.wb i).mpr ⟨k, lk, hk, u.trans uk⟩
abbrev keysI (w : PkW) (z : Str) : List Nat := (rowI w.ns z).filter fun k => w.wm.testBit k
theorem keyAt {w : PkW} (F : PkFix w) {z : Str} (hz : z ∈ w.hs) : ∃ (k : Nat) (init : List Nat), keysI w z = init ++ [k] ∧ 1 ≤ (keysI w z).length ∧ (rowI w.ns z)[(keysI w z).length - 1]? = some k ∧ k < w.ns.length ∧ handAt w.ns k = z ∧ w.wm.testBit k = true := by
  obtain ⟨k0, lk0, hk0, j, lj, hj, u⟩ := F.ok.pp.cov z hz
  have m0 : k0 ∈ keysI w z := List.mem_filter.mpr ⟨row_mem.mpr ⟨lk0, hk0⟩, (F.wb k0).mpr ⟨j, lj, hj, u⟩⟩
  have pre : keysI w z = (rowI w.ns z).take (keysI w z).length := filter_prefix ((row_chain (ns := w.ns) (h := z)).imp fun {a b} u hb => whole_down F u hb)
  rcases List.eq_nil_or_concat (keysI w z) with e | ⟨init, k, e⟩
  · rw [e] at m0
    cases m0
  · rw [List.concat_eq_append] at e
    have mk : k ∈ keysI w z := by
      rw [e]
      exact List.mem_append_right _ List.mem_cons_self
    obtain ⟨m1, m2⟩ := List.mem_filter.mp mk
    obtain ⟨lk, hk⟩ := row_mem.mp m1
    have l1 : 1 ≤ (keysI w z).length := List.length_pos_of_mem m0
    refine ⟨k, init, e, l1, ?_, lk, hk, m2⟩
    have le : (keysI w z).length = init.length + 1 := by rw [e, List.length_append]; rfl
    have t : ((rowI w.ns z).take (keysI w z).length)[(keysI w z).length - 1]? = some k := by
      rw [← pre, le, Nat.add_sub_cancel]
      rw [e, List.getElem?_append_right (Nat.le_refl _), Nat.sub_self]
      rfl
    rw [List.getElem?_take_of_lt (by omega)] at t
    exact t
theorem row_nms {w : PkW} (F : PkFix w) {z y : Str} (h : y ∈ (rowI w.ns z).map (nameAt w.ns)) : IsNm y := by
  obtain ⟨k, hk, rfl⟩ := List.mem_map.mp h
  exact F.ok.nms k (row_mem.mp hk).1
theorem hs_nm {w : PkW} (F : PkFix w) {z : Str} (h : z ∈ w.hs) : IsNm z := F.ok.hd.nm z h
theorem rs_nm {w : PkW} (F : PkFix w) {z : Str} {i : Nat} (h : w.rs[i]? = some z) : IsNm z := by
  obtain ⟨k, lk, rfl, _⟩ := F.ok.rd i z h
  exact F.ok.nms k lk
theorem zipStr (xs ys : List Str) : zipd (xs.map PyData.str) (ys.map PyData.str) = (xs.zip ys).map fun p => .tuple [.str p.1, .str p.2] := by
  unfold zipd
  rw [List.zip_map, List.map_map]
  rfl
section
variable {P : Program} {w0 : World} {K : PySem.W.Frag} {mg : Str → Option Value} {base : Heap} {C CN : Addr}
theorem ok_hr {f : Addr} {fd : FuncData} (T : PcK K C) (F : Fun K "_law_hands_right" "_law_hands_right" sHr f fd)
    {gNo : Addr} {fdNo : FuncData} (No : FnOk P w0 K mg base CX0 4 gNo fdNo ["pact", "hand"] (spN K C rNo)) (kNo : PySem.W.keepIn K (.ref gNo) = true) (bNo : Binds K fdNo ["pact", "hand"] []) (mNo : mg "notes_of" = some (.ref gNo))
    {gRn : Addr} {fdRn : FuncData} (Rn : FnOk P w0 K mg base CX0 4 gRn fdRn ["pact", "hand"] (spN K C rRn)) (kRn : PySem.W.keepIn K (.ref gRn) = true) (bRn : Binds K fdRn ["pact", "hand"] []) (mRn : mg "ready_note" = some (.ref gRn))
    {gKn : Addr} {fdKn : FuncData} (Kn : FnOk P w0 K mg base CX0 4 gKn fdKn ["pact", "hand"] (spN K C rKn)) (kKn : PySem.W.keepIn K (.ref gKn) = true) (bKn : Binds K fdKn ["pact", "hand"] []) (mKn : mg "key_note" = some (.ref gKn))
    {gWp : Addr} {fdWp : FuncData} (Wp : FnOk P w0 K mg base CX0 2 gWp fdWp ["pact"] (spN K C rWp)) (kWp : PySem.W.keepIn K (.ref gWp) = true) (bWp : Binds K fdWp ["pact"] []) (mWp : mg "whole_paper" = some (.ref gWp))
    (mz : mg "zip" = none) (mt : mg "tuple" = none) (mre : mg "repr" = none) : FnG P w0 K mg base CX0 5 f fd ["pact", "hands", "notes", "ready", "whole"] (spE K (rHr K C)) := by
  refine okG F scHr (fun vs H Q E h => ?_) (fun cdv A outer s H vs Q E hr hgd h => ?_)
  · obtain ⟨S, al, es, d, sa, fx, ⟨w, _, rfl, _⟩, q⟩ := h
    exact sa.length
  obtain ⟨S, al, es, d, sa, fx, ⟨w, F, rfl, rfl⟩, q⟩ := h
  have hu := hr.units
  have hr2 : Room 2 _ := hr.mono (by decide)
  refine ⟨_, pss_cons (ps_for PassesOwn.never rfl (zipK (K := K) rfl (by rfl) mz (pa_cons (pv 1) (pa_cons (pv 3) pa_nil))) (pg_tupK (K := K) rfl rfl (pgs_cons (pg_name (i := 5) scHr.nd rfl (Or.inr rfl)) (pgs_cons (pg_name (i := 6) scHr.nd rfl (Or.inl rfl)) pgs_nil)) rfl)
      (pss_cons (ps_setLc (i := 7) (own := [("name", 9), ("owner", 10), ("waits", 11)]) (g := gTup K 3 (gCons (gName 9) (gCons (gName 10) (gCons (gName 11) gNil)))) (tt := _) rfl scHr.nd rfl rfl (sw_true rfl rfl rfl (by decide +kernel)) (pi_listK (K := K) rfl (pv 2)) (blkOk_by (N := nHr) (sc := defScope sHr) (by decide +kernel))
        (fun _ _ _ _ _ => pg_tupK rfl rfl (pgs_cons (pg_name (i := 9) scHr.nd rfl (Or.inl rfl)) (pgs_cons (pg_name (i := 10) scHr.nd rfl (Or.inl rfl)) (pgs_cons (pg_name (i := 11) scHr.nd rfl (Or.inl rfl)) pgs_nil))) rfl)
        (fun _ _ _ _ _ => pts_one (pt_cmpR op_eq (pv 10) (pv 5) (nomark _))) (fun _ _ _ _ _ => pv 9))
      (pss_cons (ps_setLc (i := 8) (own := [("name", 9)]) (g := gName 9) (tt := _) rfl scHr.nd rfl rfl (sw_true rfl rfl rfl (by decide +kernel)) (pi_listK (K := K) rfl (pv 7)) (blkOk_by (N := nHr) (sc := defScope sHr) (by decide +kernel)) (fun _ _ _ _ _ => pg_name (i := 9) scHr.nd rfl (Or.inl rfl))
        (fun _ _ _ _ _ => pts_one (pt_cmpR (inSeqK (K := K) rfl) (pv 9) (pv 4) (by rfl))) (fun _ _ _ _ _ => pv 9))
      (pss_cons (ps_if (PW.pt (pw_or (pt_cmpR op_ne (pe_callB (reprK (K := K) rfl hgd hu) (by rfl) mre (by decide +kernel) (pa_cons (pe_call No hr rfl mNo kNo bNo .nil pass0 (pa_cons (pv 0) (pa_cons (pv 5) pa_nil))) pa_nil)) (pe_callB (reprK (K := K) rfl hgd hu) (by rfl) mre (by decide +kernel) (pa_cons (pe_callTy (tupOfK (K := K) rfl) (by rfl) mt (by decide +kernel) (pa_cons (pv 7) pa_nil)) pa_nil)) (nomark _))
        (pw_or1 (pt_cmpR op_ne (pe_callB (reprK (K := K) rfl hgd hu) (by rfl) mre (by decide +kernel) (pa_cons (pe_call Rn hr rfl mRn kRn bRn .nil pass0 (pa_cons (pv 0) (pa_cons (pv 5) pa_nil))) pa_nil)) (pe_callB (reprK (K := K) rfl hgd hu) (by rfl) mre (by decide +kernel) (pa_cons (pv 6) pa_nil)) (nomark _))))) (pss_one (ps_ret pe_bl)) pss_nil)
      (pss_one (ps_if (pt_cmpR op_ne (pe_callB (reprK (K := K) rfl hgd hu) (by rfl) mre (by decide +kernel) (pa_cons (pe_call Kn hr rfl mKn kKn bKn .nil pass0 (pa_cons (pv 0) (pa_cons (pv 5) pa_nil))) pa_nil)) (pe_callB (reprK (K := K) rfl hgd hu) (by rfl) mre (by decide +kernel) (pa_cons (pe_ix (ixListK (K := K) rfl) (pv 8) (pe_un un_neg pe_int) (fun _ _ => rfl)) pa_nil)) (nomark _)) (pss_one (ps_ret pe_bl)) pss_nil))))))
    (pss_one (ps_ret (pe_cmpR op_eq (pe_callB (reprK (K := K) rfl hgd hu) (by rfl) mre (by decide +kernel) (pa_cons (pe_call Wp hr2 rfl mWp kWp bWp .nil pass0 (pa_cons (pv 0) pa_nil)) pa_nil)) (pe_callB (reprK (K := K) rfl hgd hu) (by rfl) mre (by decide +kernel) (pa_cons (pv 4) pa_nil)) (nomark _)))), ?_⟩
  have G := e_start (N := nHr) al sa fx
  let g0 (a5 a6 a7 a8 : Option Ent) : Gm := [some (.p (isPk K C w)), some (.d (strL w.hs)), some (.d (notesD w.ns)), some (.d (strL w.rs)), some (.d (strT (lotM w w.wm))), a5, a6, a7, a8, none, none, none]
  refine seq (s_for (as := w.hs.zip w.rs) (ea := fun p => .tuple [.str p.1, .str p.2]) G (by rw [← zipStr]; exact vi_zipL rfl (va_cons (v_vd rfl) (va_cons (v_vd rfl) va_nil))) (fun H1 O1 => tg_two rfl (fun _ => rfl) 5 6) (fun _ Γ => ∃ a5 a6 a7 a8, Γ = g0 a5 a6 a7 a8) ⟨_, _, _, _, rfl⟩ ?_ ?_)
  · rintro H1 j ⟨z, y⟩ O' H' σ' _ hj ⟨a5, a6, a7, a8, rfl⟩ G N kN
    obtain ⟨hz, hy⟩ := List.getElem?_zip_eq_some.mp hj
    have mz : z ∈ w.hs := List.mem_of_getElem? hz
    obtain ⟨k, init, e1, e2, e3, lk, hk, bk⟩ := keyAt F mz
    refine seq (s_set (x := .list ((rowI w.ns z).map fun k => .str (nameAt w.ns k))) G ((lc_f (as := List.range w.ns.length) (ea := ntD w.ns) (f := fun k => .str (nameAt w.ns k)) (p := fun k => own w.ns z k) (vi_list rfl (v_vd rfl)) (szOf (by rw [List.length_range]; have := F.ok.forty; omega)) (tg_three rfl (fun _ => rfl) 9 10 11) (by simp) (fun k hk => (t_B (v_eqS (v_vd rfl).w (v_vd (x := .str z) rfl).w).w).eq rfl) fun k hk _ => v_vd rfl).d) fun σ' H' G => ?_)
    refine seq (s_set (x := .list ((keysI w z).map fun k => .str (nameAt w.ns k))) G ((lc_f (as := rowI w.ns z) (ea := fun k => .str (nameAt w.ns k)) (f := fun k => .str (nameAt w.ns k)) (p := fun k => w.wm.testBit k) (vi_list rfl (v_vd rfl)) (szOf (by have := rowLen F z; omega)) (tg_name 9) (by simp) (fun k hk => (t_B (v_inT (zs := lotM w w.wm) rfl (v_vd (x := .str (nameAt w.ns k)) rfl).w (v_vd rfl).w).w).eq ?_) fun k hk _ => v_vd (x := .str (nameAt w.ns k)) rfl).d) fun σ' H' G => ?_)
    · rw [Bool.eq_iff_iff, decide_eq_true_iff]
      exact lotM_mem F (row_mem.mp hk).1
    have sh : ∀ z : Str, IsNm z → Shn (.str z) := fun z h => (fitStr h).shn
    refine seq (s_if (b := false) G (t_or (t_reprNe (x := strT ((rowI w.ns z).map (nameAt w.ns))) rfl (VA.w (va_cons (v_callN rfl rfl F (va_cons (v_vd (x := .str z) rfl) va_nil) ⟨z, mz, rfl, rfl⟩) va_nil)) (VA.w (va_cons ((v_tupL rfl (va_cons (v_vd (x := .list ((rowI w.ns z).map fun k => .str (nameAt w.ns k))) rfl) va_nil)).eq (by unfold strT; rw [List.map_map]; rfl)) va_nil)) (fitStrs (fun y hy => row_nms F hy) (by rw [List.length_map]; have := rowLen F z; omega)).shn)
      fun _ => t_reprNe (x := .str y) rfl (VA.w (va_cons (v_callN rfl rfl F (va_cons (v_vd (x := .str z) rfl) va_nil) ⟨j, z, y, hz, hy, rfl, rfl⟩) va_nil)) (VA.w (va_cons (v_vd rfl) va_nil)) (sh y (rs_nm F hy))) (fun e => absurd e (by decide)) fun _ H' G => ?_)
    refine s_if (b := false) G (t_reprNe (x := .str (nameAt w.ns k)) rfl (VA.w (va_cons (v_callN rfl rfl F (va_cons (v_vd (x := .str z) rfl) va_nil) ⟨z, k, mz, e2, e3, rfl, rfl⟩) va_nil)) (VA.w (va_cons (v_ixL rfl (v_vd (x := .list ((keysI w z).map fun k => .str (nameAt w.ns k))) rfl) ((v_un (r := _) (.int 1) (.int (-1)) (v_int 1).w fun H Q q => ?_).w) ?_) va_nil)) (sh _ (F.ok.nms k lk))) (fun e => absurd e (by decide)) fun _ H' G => ?_
    · exact ⟨_, rfl, q⟩
    · rw [e1, List.map_append]
      exact atI_last _ _
    · exact kN _ _ _ _ ⟨_, _, _, _, rfl⟩ G
  · rintro O' H' σ' _ ⟨a5, a6, a7, a8, rfl⟩ G
    exact s_ret G (v_reprEq (x := strT (lotM w w.wm)) rfl (VA.w (va_cons (v_callN rfl rfl F va_nil ⟨rfl, rfl⟩) va_nil)) (VA.w (va_cons (v_vd rfl) va_nil)) (fitStrs (lotM_nm F) (Nat.le_trans (lotM_len F) (by decide))).shn) (pure_end q)
end
end L2.K2


namespace L2.Da
open PySem L2 L2.Bv L2.Pc L2.Ts L2.K2 PyProof.Rows
section
variable {c : Cf} {Γ : Gm} {te ta tb : TE} {tA : TA} {K : PySem.W.Frag} {R Ra Rb : PyData → Prop} {x : PyData}
/-- things of which more than one may come -/
theorem vr_tup1 (h : Vr c Γ ta Ra) : Vr c Γ (tTup (tCons ta tNil)) fun y => ∃ a, Ra a ∧ y = .tuple [a] := fun O H σ G Q q => by
  refine h O H σ G _ fun v H1 k1 j1 ⟨a, ra, da⟩ => ⟨by show 1 ≤ sizeLine; decide, fun p hp => ?_⟩
  have G1 := G.go k1 j1
  exact q _ _ (k1.trans (KS.new hp)) (G1.js' (smNew hp)) ⟨_, ⟨a, ra, rfl⟩, dqTup G1.al hp (.cons da .nil)⟩
theorem vr_tup2 (h : Vr c Γ ta Ra) (k : Vr c Γ tb Rb) : Vr c Γ (tTup (tCons ta (tCons tb tNil))) fun y => ∃ a b, Ra a ∧ Rb b ∧ y = .tuple [a, b] := fun O H σ G Q q => by
  refine h O H σ G _ fun v H1 k1 j1 ⟨a, ra, da⟩ => k O H1 σ (G.go k1 j1) _ fun u H2 k2 j2 ⟨b, rb, db⟩ => ⟨by show 2 ≤ sizeLine; decide, fun p hp => ?_⟩
  have G1 := G.go k1 j1
  have G2 := G1.go k2 j2
  exact q _ _ ((k1.trans k2).trans (KS.new hp)) (G2.js' (smNew hp)) ⟨_, ⟨a, b, ra, rb, rfl⟩, dqTup G2.al hp (.cons (Dq.go da (k2.sub fun _ => dsM)) (.cons db .nil))⟩
theorem vr_tupL (hK : K = c.K) (h : Vr c Γ te R) (l : ∀ y, R y → ∃ xs, y = .list xs) : Vr c Γ (tCB (rTupOf K) (tCons te tNil)) fun y => ∃ xs, R (.list xs) ∧ y = .tuple xs := fun O H σ G Q q => by
  subst hK
  refine h O H σ G _ fun v H1 k1 j1 ⟨y, ry, dy⟩ => ?_
  have G1 := G.go k1 j1
  obtain ⟨xs, rfl⟩ := l y ry
  cases dy with
  | lst h1 h2 => exact ⟨_, _, rfl, .inl ⟨sqLRd h1.now, fun p hp => q _ _ (k1.trans (KS.new hp)) (G1.js' (smNew hp)) ⟨_, ⟨xs, ry, rfl⟩, dqTup G1.al hp h2⟩⟩⟩
/-- sorted(set(..)) -/
theorem vr_sortSet {P : Program} {w : World} {Rx : List Str → Prop} (hK : K = c.K) (h : Vr c Γ te fun y => ∃ xs : List Str, y = .list (xs.map .str) ∧ xs.length < 64 ∧ Rx xs) :
    Vr c Γ (tCB (rSortT P w) (tCons (tCB (rSetT K P w) (tCons te tNil)) tNil)) fun y => ∃ xs : List Str, Rx xs ∧ y = .list ((srt (once xs)).map .str) := fun O H σ G Q q => by
  subst hK
  refine h O H σ G _ fun v H1 k1 j1 ⟨y, ⟨xs, e, l, rx⟩, dy⟩ => ?_
  subst e
  have G1 := G.go k1 j1
  cases dy with
  | lst h1 h2 =>
    have e := dqStrs_inv xs h2
    subst e
    refine ⟨_, xs, rfl, sqLRd h1.now, l, fun a ha => ⟨a, once xs, rfl, upd_same, Nat.lt_of_le_of_lt (once_len xs) l, fun zs p pm so hp => ?_⟩⟩
    have e := srt_eq pm so
    subst e
    have s1 : Same H1 (upd H1 a (TSo P w a (once xs))) := smNew ha
    have G2 := G1.same s1
    exact q _ _ ((k1.trans (KS.of s1)).trans (KS.new hp)) (G2.js' (smNew hp)) ⟨_, ⟨xs, rx, rfl⟩, dqLst G2.al hp (dqStrs _)⟩
end
end L2.Da
namespace L2.K2
open PySem L2 L2.Bv L2.Pc L2.Ts L2.Da PyProof.Rows Bov LamX
/-! ### draws of data -/
def preDr (ds : List PyData) : Prop := ∃ n : Nat, ds = [.int (n : Nat)] ∧ 1 ≤ n ∧ n ≤ 1000000
def rDr (ds : List PyData) (d : PyData) : Prop := ∃ (n : Nat) (r : Nat), ds = [.int (n : Nat)] ∧ d = .int (r : Nat) ∧ r < n
def prePi (ds : List PyData) : Prop := ∃ xs, ds = [.list xs] ∧ 1 ≤ xs.length ∧ xs.length ≤ 1000
def rPi (ds : List PyData) (d : PyData) : Prop := ∃ xs, ds = [.list xs] ∧ d ∈ xs
section
variable {P : Program} {w : World} {K : PySem.W.Frag} {mg : Str → Option Value} {base : Heap}
theorem drD {f : Addr} {fd : FuncData} (F : FnOk P w K mg base CX0 1 f fd ["heap", "many"] spAny) : FnOk P w K mg base CX0 1 f fd ["heap", "many"] (spD K preDr rDr) := FnOk.sp F fun vs H Q E h => by
  obtain ⟨dl, cl, vs', S, ds, rfl, D, h1, h2, al, da, ⟨n, rfl, n1, n2⟩, q⟩ := h
  cases da with
  | cons a b =>
    cases b
    cases a
    refine ⟨dl, cl, _, rfl, D, by omega, by omega, fun r H' r0 r1 D' k' => ?_⟩
    obtain ⟨m, rfl⟩ := Int.eq_ofNat_of_zero_le r0
    exact q _ H' (.int (m : Nat)) ⟨n, m, rfl, rfl, by omega⟩ D' k' (.int _)
theorem ok_pickD {f g : Addr} {fd gd : FuncData} (F : Fun K "_law_pick" "_law_pick" sOf f fd) (G : FnOk P w K mg base CX0 1 g gd ["heap", "many"] spAny) (kG : PySem.W.keepIn K (.ref g) = true) (bG : Binds K gd ["heap", "many"] []) (mG : mg "_law_draw" = some (.ref g))
    (ml : mg "len" = none) : FnOk P w K mg base CX0 2 f fd ["heap", "some"] (spD K prePi rPi) := by
  refine F.ok scO (fun vs H Q E h => ?_) (fun cdv A outer s H vs Q E hr h => ?_)
  · obtain ⟨dl, cl, vs', S, ds, rfl, D, h1, h2, al, da, ⟨xs, rfl, _⟩, q⟩ := h
    rw [List.length_cons, da.length]
    rfl
  obtain ⟨dl, cl, vs', S, ds, rfl, D, h1, h2, al, da, ⟨xs, rfl, l1, l2⟩, q⟩ := h
  refine ⟨_, pss_one (ps_ret (pe_ix ix_seq (pv 1) (pe_call G hr rfl mG kG bG .nil pass0 (pa_cons (pv 0) (pa_cons (pe_callB call_len (by rfl) ml PySem.boot_len (pa_cons (pv 1) pa_nil)) pa_nil))) (fun _ _ => rfl))), ?_⟩
  cases da with
  | cons a b =>
    cases b
    cases a with
    | @lst a vs _ g1 g2 =>
      have lv := g2.length
      refine ⟨_, rfl, _, rfl, _, rfl, _, _, rfl, .inl ⟨_, sqLRd g1.now, rfl⟩, dl, cl, _, rfl, D, by omega, by omega, fun r H' r0 r1 D' k' => ?_⟩
      obtain ⟨n, rfl⟩ := Int.eq_ofNat_of_zero_le r0
      have hn : n < vs.length := by omega
      have e := List.getElem?_eq_getElem hn
      obtain ⟨d, e1, e2⟩ := g2.get e
      have ks := k'.ks h1 h2
      refine .inl ⟨_, _, _, _, rfl, rfl, sqLRd (g1.go ks).now, atI_nat e, ?_⟩
      exact q _ H' d ⟨xs, rfl, List.mem_of_getElem? e1⟩ D' k' (e2.go ks)
end
end L2.K2


namespace L2.K2
open PySem L2 L2.Bv L2.Pc L2.Ts L2.Da PyProof.Rows Bov LamX
theorem v_ltI {c : Cf} {Γ : Gm} {ta tb : TE} {m n : Int} (ha : Vw c Γ ta (.int m)) (hb : Vw c Γ tb (.int n)) : Vd c Γ (tOp (rI0 fun i j => .bl (decide (i < j))) ta tb) (.bool (decide (m < n))) := v_opS (.int _) (.int _) (.bl _) ha hb fun H Q q => ⟨_, _, rfl, rfl, q⟩
/-- what lies under what, by names -/
structure BelM (ns : List Nt) (m : List (Str × List Str)) : Prop where
  keys : m.map (·.1) = ns.map (·.1)
  get : ∀ j, j < ns.length → ∃ bs, getB m (nameAt ns j) = some bs ∧ BelowOk ns j bs
theorem BelM.und {w : PkW} (F : PkFix w) {m : List (Str × List Str)} (B : BelM w.ns m) {i j : Nat} {bs : List Str} (li : i < w.ns.length) (lj : j < w.ns.length) (ok : BelowOk w.ns j bs) : decide (nameAt w.ns i ∈ bs) = und w.ns i j := by
  rw [Bool.eq_iff_iff, decide_eq_true_iff, ok.iff, und_t]
  constructor
  · rintro ⟨k, lk, e, u⟩
    rw [← F.ok.nt.inj (by omega) li e]
    exact u
  · exact fun u => ⟨i, u.le, rfl, u⟩
abbrev nms (w : PkW) : List Str := w.ns.map (·.1)
theorem nms_mem {w : PkW} {z : Str} : z ∈ nms w ↔ ∃ i, i < w.ns.length ∧ nameAt w.ns i = z := by
  show z ∈ w.ns.map (·.1) ↔ _
  rw [nameMap]
  constructor
  · intro h
    obtain ⟨i, hi, e⟩ := List.mem_map.mp h
    exact ⟨i, List.mem_range.mp hi, e⟩
  · rintro ⟨i, li, e⟩
    exact List.mem_map.mpr ⟨i, List.mem_range.mpr li, e⟩
theorem nms_nm {w : PkW} (F : PkFix w) {z : Str} (h : z ∈ nms w) : IsNm z := by
  obtain ⟨i, li, rfl⟩ := nms_mem.mp h
  exact F.ok.nms i li
theorem nms_len {w : PkW} : (nms w).length = w.ns.length := List.length_map _
abbrev sPrs : Stmt := top 56
abbrev nPrs : List Str := ["heap", "pact", "names", "below", "pairs", "one", "turn", "other", "pair"]
theorem scPrs : FnScope nPrs ["heap", "pact", "names", "below"] (defScope sPrs) := ⟨rfl, rfl, rfl, by decide +kernel, rfl, by decide +kernel, by decide +kernel⟩
def rPrs (K : PySem.W.Frag) (C : Addr) (es : List Ent) (d : PyData) : Prop := ∃ w m, PkFix w ∧ BelM w.ns m ∧ es = [.p (isPk K C w), .d (strL (nms w)), .p (isBel m)] ∧ d = .bool true
def pairD (p : Str × Str) : PyData := .tuple [.str p.1, .str p.2]
theorem prPairs {α : Type} {PP : Str × Str → Prop} : ∀ {as : List α} {ys : List PyData}, Pr (fun _ y => ∃ p : Str × Str, PP p ∧ y = pairD p) as ys → ∃ ps : List (Str × Str), ys = ps.map pairD ∧ ps.length = as.length ∧ ∀ p ∈ ps, PP p
  | _, _, .nil => ⟨[], rfl, rfl, fun _ h => by cases h⟩
  | _, _, .cons ⟨p, hp, e⟩ r => by
    obtain ⟨ps, e1, e2, e3⟩ := prPairs r
    refine ⟨p :: ps, by rw [e, e1]; rfl, by rw [List.length_cons, List.length_cons, e2], fun q hq => ?_⟩
    rcases List.mem_cons.mp hq with rfl | hq
    · exact hp
    · exact e3 q hq
theorem layPairs : ∀ ps : List (Str × Str), (∀ p ∈ ps, IsNm p.1 ∧ IsNm p.2) → PyData.canLayAll0 (ps.map pairD) = true ∧ PyData.depthAll (ps.map pairD) ≤ 1
  | [], _ => by simp [PyData.canLayAll0, PyData.depthAll]
  | p :: r, h => by
    obtain ⟨a, b⟩ := layPairs r fun q hq => h q (List.mem_cons_of_mem _ hq)
    obtain ⟨h1, h2⟩ := h p List.mem_cons_self
    refine ⟨by simp [PyData.canLayAll0, PyData.canLay0, pairD, nmOk h1, nmOk h2] <;> exact a, ?_⟩
    simp only [List.map_cons, PyData.depthAll, pairD, PyData.depth]
    omega
theorem shPairs {ps : List (Str × Str)} (h : ∀ p ∈ ps, IsNm p.1 ∧ IsNm p.2) : SeqAt.shaped (.list (ps.map pairD)) = true := by
  obtain ⟨a, b⟩ := layPairs ps h
  unfold SeqAt.shaped
  rw [Bool.and_eq_true]
  refine ⟨by simp [PyData.canLay0, a], decide_eq_true ?_⟩
  simp only [PyData.depth]
  omega
theorem eqvNilQ {ps : List (Str × Str)} : PyData.eqv (.list (ps.map pairD)) (.list []) = ps.isEmpty := by
  cases ps <;> rfl
section
variable {P : Program} {w0 : World} {K : PySem.W.Frag} {mg : Str → Option Value} {base : Heap} {C CN : Addr}
theorem ok_prs {f : Addr} {fd : FuncData} (T : PcK K C) (F : Fun K "_law_pairs_right" "_law_pairs_right" sPrs f fd)
    {gO : Addr} {fdO : FuncData} (O : FnOk P w0 K mg base CX0 2 gO fdO ["heap", "some"] (spD K prePi rPi)) (kO : PySem.W.keepIn K (.ref gO) = true) (bO : Binds K fdO ["heap", "some"] []) (mO : mg "_law_pick" = some (.ref gO))
    {gLu : Addr} {fdLu : FuncData} (Lu : FnOk P w0 K mg base CX0 4 gLu fdLu ["pact", "one", "other"] (spN K C rLi)) (kLu : PySem.W.keepIn K (.ref gLu) = true) (bLu : Binds K fdLu ["pact", "one", "other"] []) (mLu : mg "lies_under" = some (.ref gLu))
    (mr : mg "range" = none) (mn : mg "len" = none) (mre : mg "repr" = none) : FnG P w0 K mg base CX0 5 f fd ["heap", "pact", "names", "below"] (spED K (rPrs K C)) := by
  refine okG F scPrs (fun vs H Q E h => ?_) (fun cdv A outer s H vs Q E hr hgd h => ?_)
  · obtain ⟨dl, cl, vs', S, al, es, rfl, D, h1, h2, sa, fx, ⟨d, w, m, _, _, rfl, _⟩, q⟩ := h
    rw [List.length_cons, sa.length]
    rfl
  obtain ⟨dl, cl, vs', S, al, es, rfl, D, h1, h2, sa, fx, ⟨d, w, m, F, B, rfl, rfl⟩, q⟩ := h
  have hu := hr.units
  have hu2 := hu_of hr
  have hr2 : Room 2 _ := hr.mono (by decide)
  refine ⟨_, pss_cons (ps_setLc (i := 4) (own := [("turn", 6)]) (g := gName 6) (tt := tYes) rfl scPrs.nd rfl rfl (sw_true rfl rfl rfl (by decide +kernel)) (pi_range1 (by rfl) mr (pa_cons (pe_ifExp (pt_cmpR op_lt (pe_callB (lenSeqK (K := K) rfl) (by rfl) mn PySem.boot_len (pa_cons (pv 2) pa_nil)) pe_int (nomark _)) pe_int pe_int) pa_nil)) (blkOk_by (N := nPrs) (sc := defScope sPrs) (by decide +kernel)) (fun _ _ _ _ _ => pg_name (i := 6) scPrs.nd rfl (Or.inl rfl)) (fun _ _ _ _ _ => pts_nil)
      (fun _ _ _ _ _ => pe_tup (pa_cons (pe_call O hr2 rfl mO kO bO .nil pass0 (pa_cons (pv 0) (pa_cons (pv 2) pa_nil))) (pa_cons (pe_call O hr2 rfl mO kO bO .nil pass0 (pa_cons (pv 0) (pa_cons (pv 2) pa_nil))) pa_nil))))
    (pss_cons (ps_for PassesOwn.never rfl (pi_listK (K := K) rfl (pe_ifExp (pt_cmpR (eqDK (K := K) rfl hu) (pv 4) (pe_lst pa_nil) (nomark _)) (pv 2) (pe_lst pa_nil))) (pg_name (i := 5) scPrs.nd rfl (Or.inr rfl))
      (pss_one (ps_set (i := 4) scPrs.nd rfl (Or.inl rfl) (pe_op op_catR (pv 4) (pe_lc (own := [("other", 7)]) (g := gName 7) (tt := tYes) rfl scPrs.nd (pi_listK (K := K) rfl (pv 2)) (blkOk_by (N := nPrs) (sc := defScope sPrs) (by decide +kernel)) (fun _ _ _ _ _ => pg_name (i := 7) scPrs.nd rfl (Or.inl rfl)) (fun _ _ _ _ _ => pts_nil) (fun _ _ _ _ _ => pe_tup (pa_cons (pv 5) (pa_cons (pv 7) pa_nil))))))))
    (pss_one (ps_ret (pe_cmpR (eqDK (K := K) rfl hu) (pe_lc (own := [("pair", 8)]) (g := gName 8) (tt := _) rfl scPrs.nd (pi_listK (K := K) rfl (pv 4)) (blkOk_by (N := nPrs) (sc := defScope sPrs) (by decide +kernel)) (fun _ _ _ _ _ => pg_name (i := 8) scPrs.nd rfl (Or.inl rfl))
      (fun _ _ _ _ _ => pts_one (pt_cmpR op_ne (pe_callB (reprK (K := K) rfl hgd hu) (by rfl) mre (by decide +kernel) (pa_cons (pe_call Lu hr rfl mLu kLu bLu .nil pass0 (pa_cons (pv 1) (pa_cons (pe_ix (ixTupK (K := K) rfl) (pv 8) pe_int (fun _ _ => rfl)) (pa_cons (pe_ix (ixTupK (K := K) rfl) (pv 8) pe_int (fun _ _ => rfl)) pa_nil)))) pa_nil))
        (pe_callB (reprK (K := K) rfl hgd hu) (by rfl) mre (by decide +kernel) (pa_cons (pe_cmpR (inSeqK (K := K) rfl) (pe_ix (ixTupK (K := K) rfl) (pv 8) pe_int (fun _ _ => rfl)) (pe_dget hu2 (pv 3) (pe_ix (ixTupK (K := K) rfl) (pv 8) pe_int (fun _ _ => rfl)) (fun _ _ => rfl)) (by rfl)) pa_nil)) (nomark _))) (fun _ _ _ _ _ => pv 8)) (pe_lst pa_nil) (nomark _))))), ?_⟩
  have n40 := F.ok.forty
  have n2 := F.ok.two
  have G := ed_start (N := nPrs) al h1 h2 D sa fx
  have hd : HasDeal (dealC K S H al dl cl h1 h2) dl cl := dealC_has
  let g0 (a4 a5 : Option Ent) : Gm := [some (.p (isR dl)), some (.p (isPk K C w)), some (.d (strL (nms w))), some (.p (isBel m)), a4, a5, none, none, none]
  let PP (p : Str × Str) : Prop := p.1 ∈ nms w ∧ p.2 ∈ nms w
  have pick : ∀ {Γ : Gm} {ta : TE}, Γ[0]? = some (some (.p (isR dl))) → Vd (dealC K S H al dl cl h1 h2) Γ ta (strL (nms w)) → Vr (dealC K S H al dl cl h1 h2) Γ (tCall (spD K prePi rPi) [] E0 (tCons (tVar 0) (tCons ta tNil))) fun y => ∃ z, z ∈ nms w ∧ y = .str z := fun {Γ ta} h0 h2' => Vx.mono (v_callD hd rfl h0 (va_cons h2' va_nil) ⟨_, rfl, by rw [List.length_map, nms_len]; omega, by rw [List.length_map, nms_len]; omega⟩) fun O H v ⟨y, ⟨xs, e, hm⟩, d⟩ => by
    cases e
    obtain ⟨z, hz, rfl⟩ := List.mem_map.mp hm
    exact ⟨_, ⟨z, hz, rfl⟩, d⟩
  refine seq (s_setr (R := fun y => ∃ ps : List (Str × Str), y = .list (ps.map pairD) ∧ ps.length ≤ 40 ∧ ∀ p ∈ ps, PP p) G ?_ ?_)
  · refine (lc_mr (as := List.range (if (nms w).length < 8 then 0 else 40)) (ea := fun i => .int (i : Nat)) (Ra := fun _ y => ∃ p : Str × Str, PP p ∧ y = pairD p) ?_ ?_ (tg_name 6) (by simp) fun i hi => ?_).r fun xs pr => ?_
    · have e1 : ∀ n : Nat, (List.range n) = List.range ((n : Nat) : Int).toNat := fun n => by rw [Int.toNat_natCast]
      rw [e1]
      refine vi_rng (VA.w (va_cons ((v_ifd (t_B (v_ltI (v_lenL rfl (VA.w (va_cons (v_vd (x := strL (nms w)) rfl) va_nil))).w (v_int 8).w).w) (fun _ => v_int 0) fun _ => v_int 40).eq ?_) va_nil)) (by split <;> decide) (by split <;> decide)
      rw [List.length_map]
      by_cases c : (nms w).length < 8
      · rw [if_pos c, if_pos (decide_eq_true (by omega))]
        rfl
      · rw [if_neg c, if_neg (by rw [decide_eq_true_iff]; omega)]
        rfl
    · rw [List.length_range]
      split <;> decide
    · exact Vx.mono (vr_tup2 (pick rfl (v_vd rfl)) (pick rfl (v_vd rfl))) fun O H v ⟨y, ⟨a, b, ⟨z1, m1, e1⟩, ⟨z2, m2, e2⟩, e⟩, d⟩ => ⟨y, ⟨(z1, z2), ⟨m1, m2⟩, by rw [e, e1, e2]; rfl⟩, d⟩
    · obtain ⟨ps, e1, e2, e3⟩ := prPairs pr
      refine ⟨ps, by rw [e1], ?_, e3⟩
      rw [e2, List.length_range]
      split <;> omega
  rintro _ σ' H' ⟨ps, rfl, l40, hps⟩ G
  have nmP : ∀ {ps : List (Str × Str)}, (∀ p ∈ ps, PP p) → ∀ p ∈ ps, IsNm p.1 ∧ IsNm p.2 := fun h p hp => ⟨nms_nm F (h p hp).1, nms_nm F (h p hp).2⟩
  dsimp only
  refine seq (s_for (as := if ps = [] then nms w else []) (ea := .str) G ?_ (fun H1 O1 => tg_name 5) (fun j Γ => ∃ (ps : List (Str × Str)) (a5 : Option Ent), Γ = g0 (some (.d (.list (ps.map pairD)))) a5 ∧ ps.length ≤ 40 + 40 * j ∧ ∀ p ∈ ps, PP p) ⟨ps, none, rfl, by omega, hps⟩ ?_ ?_)
  · refine vi_list rfl ((v_ifd (t_B (v_eqD (x := .list (ps.map pairD)) (y := .list []) (v_vd rfl).w (v_lst va_nil (Nat.zero_le _)).w (shPairs (nmP hps)) rfl).w) (fun _ => v_vd (x := strL (nms w)) rfl) fun _ => v_lst va_nil (Nat.zero_le _)).eq ?_)
    rw [eqvNilQ]
    cases ps <;> rfl
  · rintro H1 j z O' H' σ' _ hj ⟨ps, a5, rfl, l, hp⟩ G N kN
    have mz : z ∈ nms w := by
      have q := List.mem_of_getElem? hj
      split at q
      · exact q
      · cases q
    have lj : j < 40 := by
      have q := (List.getElem?_eq_some_iff.mp hj).1
      split at q
      · rw [nms_len] at q
        omega
      · cases q
    have e0 : (nms w).map (fun y => pairD (z, y)) = ((nms w).map fun y => (z, y)).map pairD := by
      generalize nms w = l
      rw [List.map_map]
      rfl
    refine s_set (x := .list ((ps ++ (nms w).map fun y => (z, y)).map pairD)) G ((f_cat (xs := ps.map pairD) (ys := (nms w).map fun y => pairD (z, y)) (v_vd rfl) ((lc_m (as := nms w) (ea := .str) (f := fun y => pairD (z, y)) (vi_list rfl (v_vd rfl)) (szOf (by rw [nms_len]; omega)) (tg_name 7) (by simp) fun y hy => v_tup (va_cons (v_vd (x := .str z) rfl) (va_cons (v_vd (x := .str y) rfl) va_nil)) (by show 2 ≤ sizeLine; decide)).d) (szOf (by rw [List.length_map, List.length_map, nms_len]; omega))).eq (by rw [e0, List.map_append])).d fun σ' H' G => ?_
    refine kN _ _ _ _ ⟨ps ++ (nms w).map fun y => (z, y), _, rfl, by rw [List.length_append, List.length_map, nms_len]; omega, fun p hp' => ?_⟩ G
    rcases List.mem_append.mp hp' with h | h
    · exact hp p h
    · obtain ⟨y, hy, rfl⟩ := List.mem_map.mp h
      exact ⟨mz, hy⟩
  · rintro O' H' σ' _ ⟨qs, a5, rfl, l, hp⟩ G
    have lm : (if ps = [] then nms w else []).length ≤ 40 := by
      split
      · rw [nms_len]; omega
      · exact Nat.zero_le _
    have l2 : qs.length ≤ 40 + 40 * 40 := Nat.le_trans l (Nat.add_le_add_left (Nat.mul_le_mul_left _ lm) _)
    refine s_ret G ((v_eqD (x := .list []) (y := .list []) ((lc_f (as := qs) (ea := pairD) (f := pairD) (p := fun _ => false) (vi_list rfl (v_vd rfl)) (szOf (by omega)) (tg_name 8) (by simp) (fun p hp' => ?_) fun p hp' _ => v_vd (x := pairD p) rfl).eq (by rw [List.filter_eq_nil_iff.mpr fun _ _ z => Bool.noConfusion z]; rfl)).d.w (v_lst va_nil (Nat.zero_le _)).w rfl rfl).eq rfl) (deal_end fun v H' D' k' d' => q v H' _ ⟨w, m, F, B, rfl, rfl⟩ D' k' d')
    obtain ⟨m1, m2⟩ := hp p hp'
    obtain ⟨i, li, ei⟩ := nms_mem.mp m1
    obtain ⟨j, lj, ej⟩ := nms_mem.mp m2
    obtain ⟨bs, gb, bok⟩ := B.get j lj
    have v0 : ∀ {Γ : Gm}, Γ[8]? = some (some (.d (pairD p))) → Vd (dealC K S H al dl cl h1 h2) Γ (tOp (rIxT K) (tVar 8) (tC (.int 0))) (.str (nameAt w.ns i)) := fun h => v_ixT rfl (v_vd h) (v_int 0).w (by rw [ei]; rfl)
    have v1 : ∀ {Γ : Gm}, Γ[8]? = some (some (.d (pairD p))) → Vd (dealC K S H al dl cl h1 h2) Γ (tOp (rIxT K) (tVar 8) (tC (.int 1))) (.str (nameAt w.ns j)) := fun h => v_ixT rfl (v_vd h) (v_int 1).w (by rw [ej]; rfl)
    exact t_reprNe (x := .bool (und w.ns i j)) rfl (VA.w (va_cons (v_callN rfl rfl F (va_cons (v0 rfl) (va_cons (v1 rfl) va_nil)) ⟨i, j, li, lj, rfl, rfl⟩) va_nil)) (VA.w (va_cons ((v_inL rfl (v0 rfl).w (v_bget rfl bel_is (v1 rfl).w gb).w).eq (by rw [B.und F li lj bok])) va_nil)) (fitBl _).shn
end
end L2.K2


namespace L2.Da
open PySem L2 L2.Bv L2.Pc L2.Ts L2.K2 PyProof.Rows
/-- arguments of which more than one row may come -/
def VR (c : Cf) (Γ : Gm) (ta : TA) (R : List PyData → Prop) : Prop := ∀ (O : Own) (H : Hp) (σ : St), Good c O H σ Γ → ∀ Q : List V → Hp → Prop, (∀ vs H' ds, R ds → KS c.M H H' → c.J H' → DqAll c.K (DS c O) H' vs ds → Q vs H') → ta σ H Q
section
variable {c : Cf} {Γ : Gm} {te ta tb : TE} {tA : TA} {K : PySem.W.Frag} {R Ra Rb : PyData → Prop} {Rs : List PyData → Prop} {x : PyData} {P : Own → Hp → V → Prop}
theorem vr_nil : VR c Γ tNil (· = []) := fun O H σ G Q q => q [] H [] rfl KS.refl G.j .nil
theorem vr_cons (h : Vr c Γ ta Ra) (k : VR c Γ tA Rs) : VR c Γ (tCons ta tA) fun ds => ∃ a r, Ra a ∧ Rs r ∧ ds = a :: r := fun O H σ G Q q => h O H σ G _ fun v H1 k1 j1 ⟨a, ra, da⟩ => k O H1 σ (G.go k1 j1) _ fun vs H2 ds rs k2 j2 p2 => q _ H2 _ ⟨a, ds, ra, rs, rfl⟩ (k1.trans k2) j2 (.cons (Dq.go da (k2.sub fun _ => dsM)) p2)
theorem f_lstR (h : VR c Γ tA Rs) (l : ∀ ds, Rs ds → ds.length ≤ sizeLine) : Vf c Γ (tLst tA) Rs := fun O H σ G Q q => h O H σ G _ fun vs H1 ds rs k1 j1 p1 => ⟨by rw [p1.length]; exact l ds rs, fun p hp => q p vs ds H1 _ rs k1 j1 hp rfl (l ds rs) p1⟩
/-- range(a number of which more than one may come) -/
theorem vr_rng {g : TG} {tt : TT} {vs : List Nat} {Pn : Nat → Prop} (h : Vr c Γ ta fun y => ∃ n : Nat, y = .int (n : Nat) ∧ Pn n) (k : ∀ n : Nat, Pn n → Vx c Γ (tLc (iRng1 (tCons (tC (.int (n : Nat))) tNil)) g tt te vs) P) : Vx c Γ (tLc (iRng1 (tCons ta tNil)) g tt te vs) P := fun O H σ G Q q => by
  refine h O H σ G _ fun v H1 k1 j1 ⟨y, ⟨n, e, pn⟩, d⟩ => ?_
  subst e
  cases d
  exact k n pn O H1 σ (G.go k1 j1) Q fun v H' k j p => q v H' (k1.trans k) j p
theorem vr_add {m : Nat} {Pn : Nat → Prop} (ha : Vd c Γ tb (.int (m : Nat))) (h : Vr c Γ ta fun y => ∃ n : Nat, y = .int (n : Nat) ∧ Pn n) : Vr c Γ (tOp (rI0 fun i j => .int (i + j)) tb ta) fun y => ∃ n : Nat, y = .int (n : Nat) ∧ ∃ k, Pn k ∧ n = m + k := fun O H σ G Q q => by
  refine ha O H σ G _ fun u H1 k1 j1 d1 => h O H1 σ (G.go k1 j1) _ fun v H2 k2 j2 ⟨y, ⟨n, e, pn⟩, d⟩ => ?_
  subst e
  cases d
  cases d1
  exact ⟨_, _, rfl, rfl, q _ _ (k1.trans k2) j2 ⟨.int ((m + n : Nat) : Nat), ⟨m + n, rfl, n, pn, rfl⟩, .int _⟩⟩
/-- xs.append(..) -/
theorem s_appendr {O : Own} {H : Hp} {σ : St} {D : Ends} {i : Nat} {L : Addr} {xs : List PyData} (hK : K = c.K) (G : Good c O H σ Γ) (hi : Γ[i]? = some (some (.o L (.l xs)))) (he : Vr c Γ te R) (l : xs.length < sizeLine) (k : ∀ x H', R x → Good c O H' σ (Γ.set i (some (.o L (.l (xs ++ [x]))))) → D.nx σ H') :
    tDrop (tBM K "list" rAppend (tVar i) (tCons te tNil)) D σ H := by
  subst hK
  obtain ⟨v, hv, hL, rfl, vs, e0, d0⟩ := G.at_ i _ hi
  refine ⟨_, hv, .inl ⟨rfl, _, SqL.of e0⟩, he O H σ G _ fun v H' a j ⟨x, rx, p⟩ => ?_⟩
  have G1 := G.go a j
  obtain ⟨w, hw, _, ew, ws, e1, d1⟩ := G1.at_ i _ hi
  rw [hv] at hw
  cases hw
  exact ⟨L, ws, v, rfl, rfl, e1, by rw [d1.length]; exact l, k x _ rx (G1.put hi fun kd => ⟨_, upd_same, (d1.append (.cons p .nil)).go kd⟩)⟩
theorem sorted_filter {zs : List Str} (p : Str → Bool) (h : sortedS zs = true) : sortedS (zs.filter p) = true := by
  have e := srt_eq (List.Perm.refl _) h
  have q := (srt_pw zs).filter p
  rw [← e] at q
  have z : zs.filter p = srt (zs.filter p) := sorted_uniq (srt_perm _).symm q (srt_pw _)
  rw [z]
  exact srt_sorted _
end
end L2.Da
namespace L2.K2
open PySem L2 L2.Bv L2.Pc L2.Ts L2.Da PyProof.Rows Bov LamX
theorem allB_eq {w : PkW} (F : PkFix w) {m : List (Str × List Str)} (B : BelM w.ns m) {lot : List Str} (hl : ∀ z ∈ lot, z ∈ nms w) : allB m lot = lotM w (joinM w.ms (lot.map (numOf w.ns))) := by
  unfold allB lotM
  rw [B.keys]
  refine (srt_eq ?_ (sorted_filter _ F.so)).symm
  refine (F.pm.filter _).trans (List.Perm.of_eq (List.filter_congr fun k hk => ?_))
  obtain ⟨i, li, rfl⟩ := nms_mem.mp hk
  rw [numOf_name F.ok.nt li, Bool.eq_iff_iff, joinM_iff, List.any_eq_true]
  constructor
  · rintro ⟨j', hj', b⟩
    obtain ⟨z, hz, rfl⟩ := List.mem_map.mp hj'
    obtain ⟨j, lj, rfl⟩ := nms_mem.mp (hl z hz)
    rw [numOf_name F.ok.nt lj, und_bit F.mo lj] at b
    obtain ⟨bs, gb, ok⟩ := B.get j lj
    exact ⟨_, hz, by rw [gb]; exact (B.und F li lj ok).trans b⟩
  · rintro ⟨z, hz, b⟩
    obtain ⟨j, lj, rfl⟩ := nms_mem.mp (hl z hz)
    obtain ⟨bs, gb, ok⟩ := B.get j lj
    rw [gb] at b
    exact ⟨_, List.mem_map.mpr ⟨_, hz, rfl⟩, by rw [numOf_name F.ok.nt lj, und_bit F.mo lj, ← B.und F li lj ok]; exact b⟩
end L2.K2


namespace L2.K2
open PySem L2 L2.Bv L2.Pc L2.Ts L2.Da PyProof.Rows Bov LamX
abbrev sLts : Stmt := top 57
abbrev nLts : List Str := ["heap", "pact", "names", "below", "lots", "turn", "more", "lot"]
theorem scLts : FnScope nLts ["heap", "pact", "names", "below"] (defScope sLts) := ⟨rfl, rfl, rfl, by decide +kernel, rfl, by decide +kernel, by decide +kernel⟩
theorem prStrs {α : Type} {PP : Str → Prop} : ∀ {as : List α} {ys : List PyData}, Pr (fun _ y => ∃ z : Str, PP z ∧ y = .str z) as ys → ∃ zs : List Str, ys = zs.map .str ∧ zs.length = as.length ∧ ∀ z ∈ zs, PP z
  | _, _, .nil => ⟨[], rfl, rfl, fun _ h => by cases h⟩
  | _, _, .cons ⟨p, hp, e⟩ r => by
    obtain ⟨ps, e1, e2, e3⟩ := prStrs r
    refine ⟨p :: ps, by rw [e, e1]; rfl, by rw [List.length_cons, List.length_cons, e2], fun q hq => ?_⟩
    rcases List.mem_cons.mp hq with rfl | hq
    · exact hp
    · exact e3 q hq
/-- a lot of these names, and a short one -/
def LotOk (w : PkW) (lot : List Str) : Prop := (∀ z ∈ lot, z ∈ nms w) ∧ lot.length ≤ 64
theorem bmK {X : Cx} {K : PySem.W.Frag} (hK : X.K = K) {T : String} {id : String} {r : V → List V → Hp → VK → Prop} {o e : Expr} {es : List Expr} {to : TE} {t : TA} {name : Str} {apos cpos : Pos} (pa : PlainAttrs T) (slot : Slot T name id) (hty : typeOf (.builtin id) = pure (.type "method_descriptor")) (hm : MtR X id r) (ho : PE X o to) (ha : PA X (e :: es) t)
    (hbase : attributeBase o name X.env (eval o X.env) = eval o X.env := by rfl)
    (hfew : ((backTo cpos (starEach (e :: es) X.env)).all (fun x => !x.1) && (backToKw cpos (keywordEach [] X.env)).all (fun x => x.1.isSome)
      && decide ((e :: es).length + ([] : List Keyword).length + (if ([] : List Keyword).isEmpty then 0 else 1) < 30)) = true := by rfl)
    (hline : (apos.endLine == cpos.line) = true := by rfl) (hs : starEach (e :: es) X.env = (false, eval e X.env) :: starEach es X.env := by rfl) (hplain : (backTo cpos (starEach es X.env)).any (·.1) = false := by rfl) :
    PE X (.Call (.Attribute o name apos) (e :: es) [] cpos) (tBM K T r to t) := hK ▸ pe_bm pa slot hty hm ho ha hbase hfew hline hs hplain
theorem setTK {X : Cx} {K : PySem.W.Frag} (hc : X.calm = true) (hK : X.K = K) : CallR X (.type "set") (rSetT K X.prog X.w) := hK ▸ cr_setT hc
section
variable {P : Program} {w0 : World} {K : PySem.W.Frag} {mg : Str → Option Value} {base : Heap} {C CN : Addr}
theorem ok_lts {f : Addr} {fd : FuncData} (T : PcK K C) (F : Fun K "_law_lots_right" "_law_lots_right" sLts f fd)
    {gO : Addr} {fdO : FuncData} (O : FnOk P w0 K mg base CX0 2 gO fdO ["heap", "some"] (spD K prePi rPi)) (kO : PySem.W.keepIn K (.ref gO) = true) (bO : Binds K fdO ["heap", "some"] []) (mO : mg "_law_pick" = some (.ref gO))
    {gDr : Addr} {fdDr : FuncData} (Dr : FnOk P w0 K mg base CX0 1 gDr fdDr ["heap", "many"] (spD K preDr rDr)) (kDr : PySem.W.keepIn K (.ref gDr) = true) (bDr : Binds K fdDr ["heap", "many"] []) (mDr : mg "_law_draw" = some (.ref gDr))
    {gCo : Addr} {fdCo : FuncData} (Co : FnOk P w0 K mg base CX0 4 gCo fdCo ["pact", "lot"] (spN K C rCo)) (kCo : PySem.W.keepIn K (.ref gCo) = true) (bCo : Binds K fdCo ["pact", "lot"] []) (mCo : mg "closure_of" = some (.ref gCo))
    {gAl : Addr} {fdAl : FuncData} (Al_ : FnOk P w0 K mg base CX0 1 gAl fdAl ["below", "lot"] (spE K rAl)) (kAl_ : PySem.W.keepIn K (.ref gAl) = true) (bAl_ : Binds K fdAl ["below", "lot"] []) (mAl_ : mg "_law_all" = some (.ref gAl))
    (mr : mg "range" = none) (mt : mg "tuple" = none) (mS : mg "sorted" = none) (ms : mg "set" = none) (mre : mg "repr" = none) : FnG P w0 K mg base CX0 5 f fd ["heap", "pact", "names", "below"] (spED K (rPrs K C)) := by
  refine okG F scLts (fun vs H Q E h => ?_) (fun cdv A outer s H vs Q E hr hgd h => ?_)
  · obtain ⟨dl, cl, vs', S, al, es, rfl, D, h1, h2, sa, fx, ⟨d, w, m, _, _, rfl, _⟩, q⟩ := h
    rw [List.length_cons, sa.length]
    rfl
  obtain ⟨dl, cl, vs', S, al, es, rfl, D, h1, h2, sa, fx, ⟨d, w, m, F, B, rfl, rfl⟩, q⟩ := h
  have hu := hr.units
  have hr1 : Room 1 _ := hr.mono (by decide)
  have hr2 : Room 2 _ := hr.mono (by decide)
  refine ⟨_, pss_cons (ps_set (i := 4) scLts.nd rfl (Or.inl rfl) (pe_lst (pa_cons (pe_tup pa_nil) (pa_cons (pe_callTy (tupOfK (K := K) rfl) (by rfl) mt (by decide +kernel) (pa_cons (pe_callB (sortSK (K := K) rfl) (by rfl) mS (by decide +kernel) (pa_cons (pv 2) pa_nil)) pa_nil)) (pa_cons (pe_tup (pa_cons (pe_call O hr2 rfl mO kO bO .nil pass0 (pa_cons (pv 0) (pa_cons (pv 2) pa_nil))) pa_nil)) pa_nil)))))
    (pss_cons (ps_for PassesOwn.never rfl (pi_range1 (by rfl) mr (pa_cons pe_int pa_nil)) (pg_name (i := 5) scLts.nd rfl (Or.inl rfl))
      (pss_one (ps_expr (bmK (K := K) rfl PySem.F.plainAttrs_list PySem.F.slot_list_append PySem.F.type_list_append mt_append (pv 4) (pa_cons (pe_callTy (tupOfK (K := K) rfl) (by rfl) mt (by decide +kernel) (pa_cons (pe_callB (cr_sortT rfl) (by rfl) mS (by decide +kernel) (pa_cons (pe_callTy (setTK (K := K) rfl rfl) (by rfl) ms (by decide +kernel) (pa_cons
        (pe_lc (own := [("more", 6)]) (g := gName 6) (tt := tYes) rfl scLts.nd (pi_range1 (by rfl) mr (pa_cons (pe_op op_add pe_int (pe_call Dr hr1 rfl mDr kDr bDr .nil pass0 (pa_cons (pv 0) (pa_cons pe_int pa_nil)))) pa_nil)) (blkOk_by (N := nLts) (sc := defScope sLts) (by decide +kernel)) (fun _ _ _ _ _ => pg_name (i := 6) scLts.nd rfl (Or.inl rfl)) (fun _ _ _ _ _ => pts_nil)
          (fun _ _ _ _ _ => pe_call O hr2 rfl mO kO bO .nil pass0 (pa_cons (pv 0) (pa_cons (pv 2) pa_nil)))) pa_nil)) pa_nil)) pa_nil)) pa_nil)))))
    (pss_one (ps_ret (pe_cmpR (eqDK (K := K) rfl hu) (pe_lc (own := [("lot", 7)]) (g := gName 7) (tt := _) rfl scLts.nd (pi_listK (K := K) rfl (pv 4)) (blkOk_by (N := nLts) (sc := defScope sLts) (by decide +kernel)) (fun _ _ _ _ _ => pg_name (i := 7) scLts.nd rfl (Or.inl rfl))
      (fun _ _ _ _ _ => pts_one (pt_cmpR op_ne (pe_callB (reprK (K := K) rfl hgd hu) (by rfl) mre (by decide +kernel) (pa_cons (pe_call Co hr rfl mCo kCo bCo .nil pass0 (pa_cons (pv 1) (pa_cons (pv 7) pa_nil))) pa_nil))
        (pe_callB (reprK (K := K) rfl hgd hu) (by rfl) mre (by decide +kernel) (pa_cons (pe_call Al_ hr1 rfl mAl_ kAl_ bAl_ .nil pass0 (pa_cons (pv 3) (pa_cons (pv 7) pa_nil))) pa_nil)) (nomark _))) (fun _ _ _ _ _ => pv 7)) (pe_lst pa_nil) (nomark _))))), ?_⟩
  have n40 := F.ok.forty
  have n2 := F.ok.two
  have ml : m.length = w.ns.length := by
    have z := congrArg List.length B.keys
    rw [List.length_map, List.length_map] at z
    exact z
  have G := ed_start (N := nLts) al h1 h2 D sa fx
  have hd : HasDeal (dealC K S H al dl cl h1 h2) dl cl := dealC_has
  let g0 (a4 a5 : Option Ent) : Gm := [some (.p (isR dl)), some (.p (isPk K C w)), some (.d (strL (nms w))), some (.p (isBel m)), a4, a5, none, none]
  have pick : ∀ {c : Cf} (hd : HasDeal c dl cl) (hK : K = c.K) {Γ : Gm} {ta : TE}, Γ[0]? = some (some (.p (isR dl))) → Vd c Γ ta (strL (nms w)) → Vr c Γ (tCall (spD K prePi rPi) [] E0 (tCons (tVar 0) (tCons ta tNil))) fun y => ∃ z, z ∈ nms w ∧ y = .str z := fun {c} hd hK {Γ ta} h0 h2' => Vx.mono (v_callD hd hK h0 (va_cons h2' va_nil) ⟨_, rfl, by rw [List.length_map, nms_len]; omega, by rw [List.length_map, nms_len]; omega⟩) fun O H v ⟨y, ⟨xs, e, hm⟩, d⟩ => by
    cases e
    obtain ⟨z, hz, rfl⟩ := List.mem_map.mp hm
    exact ⟨_, ⟨z, hz, rfl⟩, d⟩
  refine seq (s_own (Rl := fun xs => ∃ ls : List (List Str), xs = ls.map strT ∧ ls.length = 3 ∧ ∀ l ∈ ls, LotOk w l) G (Vf.mono (f_lstR (vr_cons (Vd.r (R := (· = strT [])) (v_tup va_nil (Nat.zero_le _)) rfl) (vr_cons (Vd.r (R := (· = strT (srt (nms w)))) (v_tupL rfl (va_cons ((f_sortL (xs := nms w) rfl (VA.w (va_cons (v_vd rfl) va_nil)) (by rw [nms_len]; omega)).d) va_nil)) rfl) (vr_cons (vr_tup1 (pick hd rfl rfl (v_vd rfl))) vr_nil))) ?_) ?_) ?_)
  · rintro ds ⟨a, r, _, ⟨b, r2, _, ⟨c, r3, _, rfl, rfl⟩, rfl⟩, rfl⟩
    show 3 ≤ sizeLine
    decide
  · rintro ds ⟨a, r, rfl, ⟨b, r2, rfl, ⟨c, r3, ⟨y, ⟨z, hz, rfl⟩, rfl⟩, rfl, rfl⟩, rfl⟩, rfl⟩
    refine ⟨[[], srt (nms w), [z]], rfl, rfl, fun l hl => ?_⟩
    rcases List.mem_cons.mp hl with rfl | hl
    · exact ⟨fun _ h => (by cases h), Nat.zero_le _⟩
    rcases List.mem_cons.mp hl with rfl | hl
    · exact ⟨fun z hz => srt_mem.mp hz, by rw [srt_len, nms_len]; omega⟩
    · rw [List.mem_singleton.mp hl]
      exact ⟨fun y hy => (by rw [List.mem_singleton.mp hy]; exact hz), by show 1 ≤ 64; decide⟩
  rintro L _ O1 σ' H' ⟨ls, rfl, l3, hls⟩ nL _ G
  dsimp only
  refine seq (s_for (as := List.range 3) (ea := fun i => .int (i : Nat)) G (vi_rng (VA.w (va_cons (v_int 3) va_nil)) (by decide) (by decide)) (fun H1 O1 => tg_name 5) (fun j Γ => ∃ (ls : List (List Str)) (a5 : Option Ent), Γ = g0 (some (.o L (.l (ls.map strT)))) a5 ∧ ls.length = 3 + j ∧ ∀ l ∈ ls, LotOk w l) ⟨ls, none, rfl, by omega, hls⟩ ?_ ?_)
  · rintro H1 j i O' H' σ' _ hj ⟨ls, a5, rfl, l, hl⟩ G N kN
    have lj : j < 3 := by
      have q := (List.getElem?_eq_some_iff.mp hj).1
      rw [List.length_range] at q
      exact q
    have hd1 := hd.at H1 O1
    refine s_appendr (R := fun y => ∃ lot, LotOk w lot ∧ y = strT lot) rfl G rfl (Vx.mono (vr_tupL rfl (vr_sortSet (Rx := fun xs => (∀ z ∈ xs, z ∈ nms w) ∧ xs.length < 64) rfl (vr_rng (Pn := fun n => n ≤ 4) (Vx.mono (vr_add (m := 1) (v_int 1) (Pn := fun n => n ≤ 3) (Vx.mono (v_callD (ds := [.int ((4 : Nat) : Int)]) hd1 rfl rfl (va_cons (v_int 4) va_nil) ⟨4, rfl, by decide, by decide⟩) ?_)) ?_) fun n hn => (lc_mr (as := List.range n) (ea := fun i => .int (i : Nat)) (Ra := fun _ y => ∃ z, z ∈ nms w ∧ y = .str z) ?_ (szOf (by rw [List.length_range]; omega)) (tg_name 6) (by simp) fun i hi => pick hd1 rfl rfl (v_vd rfl)).r ?_)) ?_) ?_) ?_ ?_
    · rintro O H v ⟨y, ⟨n, r, e, rfl, lt⟩, d⟩
      have e4 : n = 4 := by
        have z := List.head_eq_of_cons_eq e
        injection z with z
        exact (Int.ofNat.inj z).symm
      exact ⟨_, ⟨r, rfl, by omega⟩, d⟩
    · rintro O H v ⟨y, ⟨n, e, k, hk, rfl⟩, d⟩
      exact ⟨y, ⟨1 + k, e, by omega⟩, d⟩
    · have e1 : List.range n = List.range ((n : Nat) : Int).toNat := by rw [Int.toNat_natCast]
      rw [e1]
      exact vi_rng (VA.w (va_cons (v_int _) va_nil)) (by omega) (by omega)
    · intro xs pr
      obtain ⟨zs, e1, e2, e3⟩ := prStrs pr
      rw [List.length_range] at e2
      exact ⟨zs, by rw [e1], by omega, e3, by omega⟩
    · rintro _ ⟨xs, _, rfl⟩
      exact ⟨_, rfl⟩
    · rintro O H v ⟨y, ⟨xs, ⟨xs1, ⟨q1, q2⟩, e⟩, rfl⟩, d⟩
      refine ⟨_, ⟨srt (once xs1), ⟨fun z hz => q1 z (once_mem.mp (srt_mem.mp hz)), ?_⟩, ?_⟩, d⟩
      · rw [srt_len]
        have := once_len xs1
        omega
      · cases e
        rfl
    · rw [List.length_map]
      exact small1000 (by omega)
    · rintro x H' ⟨lot, ok, rfl⟩ G
      refine kN _ _ _ _ ⟨ls ++ [lot], _, by rw [List.map_append]; rfl, by rw [List.length_append, l]; rfl, fun y hy => ?_⟩ G
      rcases List.mem_append.mp hy with z | z
      · exact hl y z
      · rw [List.mem_singleton.mp z]
        exact ok
  · rintro O' H' σ' _ ⟨ls, a5, rfl, l, hl⟩ G
    rw [List.length_range] at l
    obtain ⟨O2, G2⟩ := G.freeze (i := 4) rfl nL
    refine s_ret (Γ := g0 (some (.d (.list (ls.map strT)))) a5) G2 ((v_eqD (x := .list []) (y := .list []) ((lc_f (as := ls) (ea := strT) (f := strT) (p := fun _ => false) (vi_list rfl (v_vd rfl)) (szOf (by omega)) (tg_name 7) (by simp) (fun lot hlot => ?_) fun lot hlot _ => v_vd (x := strT lot) rfl).eq (by rw [List.filter_eq_nil_iff.mpr fun _ _ z => Bool.noConfusion z]; rfl)).d.w (v_lst va_nil (Nat.zero_le _)).w rfl rfl).eq rfl) (deal_end fun v H' D' k' d' => q v H' _ ⟨w, m, F, B, rfl, rfl⟩ D' k' d')
    obtain ⟨ok, l64⟩ := hl lot hlot
    refine t_reprNe (x := strT (lotM w (joinM w.ms (lot.map (numOf w.ns))))) rfl (VA.w (va_cons (v_callN rfl rfl F (va_cons (v_vd (x := strT lot) rfl) va_nil) ⟨lot, by omega, fun z hz => nms_mem.mp (ok z hz), rfl, rfl⟩) va_nil)) (VA.w (va_cons ((v_callE rfl (ve_cons (v_var (e := .p (isBel m)) rfl) (ve_cons (v_var (e := .d (strT lot)) rfl) ve_nil)) ?_ ⟨m, lot, _, rfl, .inr rfl, by omega, by omega, fun z hz => ?_, rfl⟩).eq (by rw [allB_eq F B ok]; rfl)) va_nil)) (fitStrs (lotM_nm F) (Nat.le_trans (lotM_len F) (by decide))).shn
    · intro e he
      rcases List.mem_cons.mp he with rfl | he
      · exact True.intro
      · rw [List.mem_singleton.mp he]
        exact True.intro
    · obtain ⟨i, li, rfl⟩ := nms_mem.mp (ok z hz)
      obtain ⟨bs, gb, _⟩ := B.get i li
      exact ⟨⟨bs, gb⟩, F.ok.nms i li⟩
end
end L2.K2


namespace L2.Bv
open PySem PySem.Spec PyProof.Rows LamX
/-! ### lambdas that are kept, and called later -/
/-- the lambda that stands at f -/
def LamO (q : Str) (ps : Arguments) (body : Expr) (scope : Scope) (cl : List (Str × Addr)) (c' f : Addr) : HO :=
  .ext fun h => ∃ pm ctv : Value, h.get? f = some (PySem.W.kla_obj "<lambda>" q ps body scope cl pm c' ctv)
section
variable {X : Cx} {pins : List (Addr × Obj)} {σ : St} {H : Hp} {s : Shared}
/-- it is made, and kept in sight -/
theorem lam_hold {T : List (Addr × Str)} {c P : Addr} {params : Arguments} {body : Expr} {scope : Scope} {pos : Pos} {E : Value → Shared → Prop} {Q : Value → Shared → Prop} (I : Inv X pins σ H s) (TB : TabB X.base X.mg c P) (hcode : X.env.code = .ref c)
    (hm : (P, X.env.qual ++ "<lambda>") ∈ T) (hu : ∀ p ∈ T, p.1 = P → p.2 = X.env.qual ++ "<lambda>") (hT : Tabs T H) (hdef : defaultsOf params X.env = ([], [])) (hfree : ∀ y ∈ scope.names, y.2 = .free → ∃ c, X.env.cells.lookup y.1 = some c)
    (h : ∀ (f c' : Addr) (H1 : Hp) (s' : Shared), Inv X pins σ (upd H1 f (LamO (X.env.qual ++ "<lambda>") params body scope (cloFrom X.env.cells scope.names []) c' f)) s' → (∀ b o, b ≠ P → H b = some o → H1 b = some o) → Tabs T H1 → H1 f = none → H1 c' = some (CodeO c' (X.env.qual ++ "<lambda>")) → Q (.ref f) s') :
    wpAny (model X.prog X.w) X.A (eval (.Lambda params body scope pos) X.env) Q E s := by
  obtain ⟨ps, eP, tr, am⟩ := hT _ hm
  have bP : s.heap.BuiltinsAt X.mg P := TB.bm.keeps I.bk
  have oP : s.heap.get? P = some { cls := .none, data := .fields ps } := I.hok P _ eP
  -- from the state behind the code object on
  have fin : ∀ {H1 : Hp} {h' : Heap} {tk : Nat} {c' : Addr} {pm ctv : Value}, Inv X pins σ H1 { s with heap := h', toks := tk } → (∀ b o, b ≠ P → H b = some o → H1 b = some o) → Tabs T H1 → H1 c' = some (CodeO c' (X.env.qual ++ "<lambda>")) →
      Q (.ref h'.objs.size) { s with heap := h'.push (PySem.W.kla_obj "<lambda>" (X.env.qual ++ "<lambda>") params body scope (cloFrom X.env.cells scope.names []) pm c' ctv), toks := tk } := fun {H1 h' tk c' pm ctv} I1 eN t1 ec => by
    refine h h'.objs.size c' H1 _ ?_ eN t1 (I1.hok.fresh (Nat.le_refl _)) ec
    exact I1.laid (t' := tk) (fun b o e => Heap.get?_push_of_some _ e) (Nat.le_refl _) ⟨⟨pm, ctv, Heap.get?_push_size _ rfl⟩, ⟨_, Heap.get?_push_size _ rfl⟩, fun h1 h2 ⟨pm, ctv, e⟩ k => ⟨pm, ctv, k _ e⟩⟩
  refine PySem.W.kla_eval hdef ?_
  cases hc : codeAmong pos ps.toList with
  | some cv =>
    obtain ⟨c', rfl, ec⟩ := am pos cv hc
    exact PySem.W.kla_makeFunctionHit (mg := X.mg) (c := c) (P := P) (ps := ps) (closure_ok hfree) I.ok.glob (I.mod.glob.keeps I.bk) hcode (TB.code.keeps I.bk) oP tr hc bP fun ctv h' tk k _ => fin (I.kept (t' := tk) k) (fun _ _ _ e => e) hT ec
  | none =>
    refine PySem.W.kla_makeFunction (mg := X.mg) (c := c) (P := P) (ps := ps) (closure_ok hfree) I.ok.glob (I.mod.glob.keeps I.bk) hcode (TB.code.keeps I.bk) oP tr hc TB.gP bP fun c' ctv h' tk k ge lt rc tb => ?_
    obtain ⟨c2, oc, vs, t, e2, r⟩ := rc
    cases e2
    have nC : H c' = none := I.hok.fresh ge
    have I1 := inv_table (t' := tk) (more := #[rawInt pos.line, rawInt pos.col, .ref c']) (h' := h') I eP (fun b o hb e => k b o hb e) tb ge ⟨oc, vs, t, r⟩
    have eN : ∀ b o, b ≠ P → H b = some o → upd (upd H P (.tbl (ps ++ #[rawInt pos.line, rawInt pos.col, .ref c']))) c' (CodeO c' (X.env.qual ++ "<lambda>")) b = some o := fun b o n2 e => by
      rw [upd_ne (ne_of_none e nC), upd_ne n2]
      exact e
    refine fin I1 eN (fun p hp => ?_) upd_same
    have far : ∀ c0, H c0 = some (CodeO c0 p.2) → upd (upd H P (.tbl (ps ++ #[rawInt pos.line, rawInt pos.col, .ref c']))) c' (CodeO c' (X.env.qual ++ "<lambda>")) c0 = some (CodeO c0 p.2) := fun c0 e => eN _ _ (fun z => by
      subst z
      rw [eP] at e
      exact codeO_ne ps (Option.some.inj e).symm) e
    by_cases hb : p.1 = P
    · have e2 := hu p hp hb
      have eL : (ps ++ #[rawInt pos.line, rawInt pos.col, .ref c']).toList = ps.toList ++ [rawInt pos.line, rawInt pos.col, .ref c'] := by simp
      refine ⟨_, by rw [hb, upd_ne (ne_of_none eP nC), upd_same], by rw [eL]; exact PySem.TriplesOk_snoc _ _ _ _ tr, fun p' cv z => ?_⟩
      rw [eL] at z
      rcases among_app _ tr z with z | z
      · obtain ⟨c0, q1, q2⟩ := am p' cv z
        refine ⟨c0, q1, far c0 ?_⟩
        rw [e2]
        exact q2
      · refine ⟨c', z, ?_⟩
        rw [e2]
        exact upd_same
    · obtain ⟨ps', a1, a2, a3⟩ := hT p hp
      refine ⟨ps', by rw [upd_ne (ne_of_none a1 nC), upd_ne hb]; exact a1, a2, fun p' cv z => ?_⟩
      obtain ⟨c0, q1, q2⟩ := a3 p' cv z
      exact ⟨c0, q1, far c0 q2⟩
/-- lambda: body, as a value -/
def tLamO (X : Cx) (T : List (Addr × Str)) (P : Addr) (params : Arguments) (body : Expr) (scope : Scope) : TE := fun σ H Q => Tabs T H ∧ ∀ (H1 : Hp) (f c' : Addr), (∀ b o, b ≠ P → H b = some o → H1 b = some o) → Tabs T H1 → H1 f = none → H1 c' = some (CodeO c' (X.env.qual ++ "<lambda>")) →
  Q (.ref f) (upd H1 f (LamO (X.env.qual ++ "<lambda>") params body scope (cloFrom X.env.cells scope.names []) c' f))
theorem pe_lamO {T : List (Addr × Str)} {c P : Addr} {params : Arguments} {body : Expr} {scope : Scope} {pos : Pos} (TB : TabB X.base X.mg c P) (hcode : X.env.code = .ref c) (hm : (P, X.env.qual ++ "<lambda>") ∈ T) (hu : ∀ p ∈ T, p.1 = P → p.2 = X.env.qual ++ "<lambda>")
    (L : LamS X.env.scope scope) (hdef : defaultsOf params X.env = ([], [])) : PE X (.Lambda params body scope pos) (tLamO X T P params body scope) := by
  refine ⟨fun pins s σ H Q I h => ?_⟩
  obtain ⟨hT, h⟩ := h
  exact lam_hold I TB hcode hm hu hT hdef (L.has I.ok) fun f c' H1 s' I1 eN t1 hf hc => ⟨.ref f, _, I1, rfl, h H1 f c' eN t1 hf hc⟩
/-- what the body of a kept lambda comes to: t, told of the maker's names -/
structure LamFit (X : Cx) (k : Nat) (params : Arguments) (body : Expr) (scope : Scope) (t : XK → TE) : Prop where
  sc : LamS X.env.scope scope
  bind : ∀ (q : Str) (cl : List (Str × Addr)) (pm cv ctv : Value), bindArgs (PySem.W.kla_fn "<lambda>" q params body scope cl pm cv ctv) ⟨[], []⟩ = pure []
  body : ∀ (A : Around) (outer : List Env) (s : Shared) (H : Hp) (E : XK) (f c' : Addr), Room k (A.deeper (lamEnv X scope s.heap.objs.size f c')) → PE (lamCx X A outer s H E scope f c') body (t E)
/-- work(), in the def that got it: I is the maker's state when that def was called -/
theorem pe_actO {CXg : CXT} {Eg : XK} {Ng : List Str} {qg : Str} {sg : Scope} {g f c' : Addr} {cdg : Value} {params : Arguments} {body : Expr} {scope : Scope} {k i : Nat} {a : Str} {pn : List (Addr × Obj)} {xe : Value → Shared → Prop} {W : WX} {E : XK} {t : XK → TE} {p1 p2 : Pos}
    (I : Inv X pins σ H s) (L : LamFit X k params body scope t) (tk : Takes ((cxOf CXg X.prog X.w X.K X.mg X.base Ng qg sg g cdg X.A X.stack s H Eg).tr pn xe) W) (hW : ∀ cls d σ' H', E cls d H' → W cls d σ' H') (hr : Room (k + 1) (X.A.deeper (envOfC qg sg s.heap.objs.size g cdg)))
    (hN : Ng[i]? = some a) (hv : Vis sg a) (hd : (a == ("__debug__" : Str)) = false := by decide) (hcd : (a == ("__classdict__" : Str)) = false := by decide) :
    PE ((cxOf CXg X.prog X.w X.K X.mg X.base Ng qg sg g cdg X.A X.stack s H Eg).tr pn xe) (.Call (.Name a p1) [] [] p2)
      (fun σZ HZ Q => σZ[i]? = some (some (.ref f)) ∧ HZ c' = some (CodeO c' (X.env.qual ++ "<lambda>")) ∧ HZ f = some (LamO (X.env.qual ++ "<lambda>") params body scope (cloFrom X.env.cells scope.names []) c' f) ∧ t E σ HZ Q) := by
  refine ⟨fun pinsZ sZ σZ HZ Q IZ ⟨hs, hc, hf, ht⟩ => ?_⟩
  refine wpAny_Call_Name_kw (thn ((pe_var (pos := p1) (i := i) hN hv hd hcd).run pinsZ sZ σZ HZ (fun v H1 => v = .ref f ∧ H1 = HZ) IZ ⟨.ref f, hs, rfl, rfl⟩) fun u s1 ⟨v, H1, I1, r1, ev, eH⟩ => ?_)
  subst ev eH
  obtain rfl : u = Value.ref f := r1
  obtain ⟨⟨pm, ctv, of1⟩, _, _⟩ := I1.hok f _ hf
  obtain ⟨⟨oc, vs, tq, hoc, hdc, hvc⟩, _, _⟩ := I1.hok c' _ hc
  have un : Un (frs X.stack) [] H H1 s.heap s1.heap := I1.base
  refine PySem.W.callWith_F0 ⟨_, _, _, _, of1⟩ ?_
  have rc : codeAny (model X.prog X.w) (X.A.deeper (envOfC qg sg s.heap.objs.size g cdg)) (.call (.ref f) ⟨[], []⟩) (CR (L2.CX X.prog X.w) (envOfC qg sg s.heap.objs.size g cdg :: X.stack) X.prog X.w H1 s1 Q E) s1 := by
    refine PySem.W.kla_callFunE hr.depth of1 rfl L.sc.co L.sc.gen rfl ⟨c', oc, vs, tq, rfl, hoc, hdc, hvc⟩ ?_
    rw [L.bind]
    refine wpAny_pure (wpAny_newFunctionEnv (fun y hy => (L.sc.own y hy).2) (fun y hy => absurd hy (by simp)) (fun h₁ hns hsb => ⟨I1.nolimit.fresh _ hsb, ?_⟩) L.sc.kind)
    have J := lam_start2 (E := E) (f := f) (c' := c') (tk := s1.toks + ([] : List (Str × Value)).length) I L.sc I1.env0 hr.hd un hns fun b o e => hsb.extBut b o (Nat.ne_of_lt (Heap.lt_size e)) (Heap.get?_push_of_some _ e)
    refine PySem.W.kla_codeExpr (wpAny_mono ((L.body _ _ s1 H1 E f c' (hr.deeper _)).run [] _ _ H1 Q J ht) (fun v s' ⟨w', H', J', rv, q⟩ => ⟨w', H', J'.os, J'.bare, J'.base, J'.hok, rv, q⟩) fun e s' hq => hq)
  have hx : Passes (L2.CX X.prog X.w) ((cxOf CXg X.prog X.w X.K X.mg X.base Ng qg sg g cdg X.A X.stack s H Eg).tr pn xe) E := passes_call tk hW
  refine wpAny_call (codeAny_mono rc fun r s' hq => ?_)
  cases r with
  | error e => exact hx pinsZ σZ H1 s1 e s' I1 hq
  | ok fl =>
    cases fl with
    | ret u => exact I1.after hq
    | next => exact False.elim hq
    | brk => exact False.elim hq
    | cont => exact False.elim hq
/-- x(e) in a block of X: e is a lambda that X made -/
def tHeld (X : Cx) (k : Nat) (TT : (XK → Hp → VK → Prop) → Hp → VK → Prop) (σ0 : St) (te : TE) : TE := fun σ H Q => te σ H fun v H1 => ∃ (f c' : Addr) (params : Arguments) (body : Expr) (scope : Scope) (t : XK → TE), v = .ref f ∧ LamFit X k params body scope t ∧
  H1 c' = some (CodeO c' (X.env.qual ++ "<lambda>")) ∧ H1 f = some (LamO (X.env.qual ++ "<lambda>") params body scope (cloFrom X.env.cells scope.names []) c' f) ∧
  TT (fun E H' Q' => H' f = some (LamO (X.env.qual ++ "<lambda>") params body scope (cloFrom X.env.cells scope.names []) c' f) ∧ t E σ0 H' Q') H1 Q
theorem pe_held {Y : Cx} {W : XK} {σ0 : St} {s3 : Shared} {H3 : Hp} {bs : Scope} {ce : Env} {fp : List Addr} {Z : Value → Shared → Prop} (hY : Y = bz X s3 H3 bs ce fp Z) (inx : InX X Y W σ0)
    {TT : (XK → Hp → VK → Prop) → Hp → VK → Prop} {x a : Str} {g : Addr} {k : Nat} {pg : Arguments} {bg : List Stmt} {sg : Scope} {dV kV doc pm cdv ct oc : Value} {an od : Option Addr} {osl : Array (Option Value)} {Ng : List Str}
    {y : Str} {te : TE} {p pos yp : Pos} (hg : Gl Y x) (hm : X.mg x = some (.ref g)) (hk : PySem.W.keepIn X.K (.ref g) = true)
    (lk : X.K.lookup g = some ⟨oc, od, .func (PySem.W.fnOf x x pg bg sg dV kV doc pm an cdv ct), osl⟩) (hcg : PySem.W.codeIn X.K cdv x = true) (hb : L2.Binds X.K (PySem.W.fnOf x x pg bg sg dV kV doc pm an cdv ct) [a] []) (Sg : FnScope Ng [a] sg) (hNg : Ng[0]? = some a) (hva : Vis sg a)
    (hG : GivesTo X Ng x sg g cdv bg a (X.env.qual ++ "<lambda>") TT) (hr : Room (k + 2) X.A) (he : PE Y (.Name y yp) te)
    (hdb : (x == ("__debug__" : Str)) = false := by decide) (hd : (a == ("__debug__" : Str)) = false := by decide) (hcd : (a == ("__classdict__" : Str)) = false := by decide) :
    PE Y (.Call (.Name x p) [.Name y yp] [] pos) (tHeld X k TT σ0 te) := by
  refine ⟨fun pins s σ H Q I h => ?_⟩
  subst hY
  refine wpAny_Call_Name_kw (ld_glob I hg hm ?_ hdb)
  refine PySem.W.callWith_K (h₀ := X.base) I.ok.mod.kin hk ?_ (by rfl) (by rfl)
  refine Calls.spliced_cons (thn (he.run pins s σ H _ I h) fun u s' ⟨v, H1, I1, r1, f, c', params, body, scope, t, ev, L, ec, ef, q⟩ => ?_)
  subst ev
  obtain rfl : u = Value.ref f := r1
  refine Calls.spliced_nil ⟨I1.kIn, ?_⟩
  obtain ⟨pX, IX⟩ := inx.back _ _ _ _ I1
  have rc : codeAny (model X.prog X.w) X.A (.call (.ref g) ⟨[.ref f], []⟩) (CR C8.CX0 X.stack X.prog X.w H1 s' Q C8.E0) s' := by
    refine run_ofS (N := Ng) (ps := [a]) (us := [.ref f]) (vs := [.ref f]) lk hcg Sg hr IX.env0 (hb s' [.ref f] IX.kIn rfl) (.cons rfl .nil) rfl fun hr' => ?_
    obtain ⟨t', ht', hq'⟩ := hG f c' s' H1 Q _ (fun W pn xe E p1 p2 tk hW => pe_actO (i := 0) IX L tk hW hr' hNg hva hd hcd) ec q
    exact ⟨t', ht'.nox, hq'⟩
  refine wpAny_call (codeAny_mono rc fun r s2 hq => ?_)
  cases r with
  | error e => exact (show False from hq).elim
  | ok fl =>
    cases fl with
    | ret u => exact I1.after hq
    | next => exact False.elim hq
    | brk => exact False.elim hq
    | cont => exact False.elim hq
end
end L2.Bv


namespace L2.Da
open PySem L2 L2.Bv L2.Pc L2.Ts L2.K2 PyProof.Rows LamX
/-! ### a def that draws, and makes lambdas -/
def tS (dl cl Pt : Addr) : Addr → Prop := fun x => x = dl ∨ x = cl ∨ x = Pt
def tJ (dl cl Pt : Addr) (q : Str) (H : Hp) : Prop := DealAt H dl cl ∧ Tabs [(Pt, q)] H
section
variable {dl cl Pt : Addr} {q : Str} {H H' : Hp} {K : PySem.W.Frag}
theorem tJ.tbl (j : tJ dl cl Pt q H) : ∃ ps, H Pt = some (.tbl ps) := by
  obtain ⟨ps, e, _⟩ := j.2 (Pt, q) List.mem_cons_self
  exact ⟨ps, e⟩
theorem tJ.al (j : tJ dl cl Pt q H) : Al (tS dl cl Pt) H := by
  obtain ⟨cs, m, e1, e2, _⟩ := j.1.ex
  obtain ⟨ps, e3⟩ := j.tbl
  rintro x (rfl | rfl | rfl) z
  · rw [e1] at z; cases z
  · rw [e2] at z; cases z
  · rw [e3] at z; cases z
/-- tuples and what is told of one object stand outside -/
theorem tJ.off (j : tJ dl cl Pt q H) {x : Addr} {o : HO} (e : H x = some o) (h1 : ∀ xs, o ≠ .lst xs) (h2 : ∀ ps, o ≠ .tbl ps) : ¬ tS dl cl Pt x := by
  obtain ⟨cs, m, e1, e2, _⟩ := j.1.ex
  obtain ⟨ps, e3⟩ := j.tbl
  rintro (rfl | rfl | rfl)
  · rw [e1] at e; cases e; exact h1 _ rfl
  · rw [e2] at e; cases e; exact h1 _ rfl
  · rw [e3] at e; cases e; exact h2 _ rfl
theorem tJ.js (j : tJ dl cl Pt q H) (k : ∀ x o, H x = some o → tS dl cl Pt x ∨ ¬ Soft o → H' x = some o) : tJ dl cl Pt q H' := by
  refine ⟨?_, fun p hp => ?_⟩
  · obtain ⟨cs, m, a1, a2, a3⟩ := j.1.ex
    exact ⟨cs, m, k _ _ a1 (.inl (.inl rfl)), k _ _ a2 (.inl (.inr (.inl rfl))), a3⟩
  · obtain ⟨ps, e, t, a⟩ := j.2 p hp
    exact ⟨ps, k _ _ e (.inr fun z => z), t, fun pos cv h => by
      obtain ⟨c, e1, e2⟩ := a pos cv h
      exact ⟨c, e1, k _ _ e2 (.inr fun z => z)⟩⟩
theorem tJ.same (j : tJ dl cl Pt q H) (s : Same H H') : tJ dl cl Pt q H' := j.js fun x o e _ => s x o e
def tabC (K : PySem.W.Frag) (H : Hp) (dl cl Pt : Addr) (q : Str) (j : tJ dl cl Pt q H) : Cf := ⟨K, tS dl cl Pt, tS dl cl Pt, tJ dl cl Pt q, H, H, [], fun _ h => h, j.al, fun _ j => j.al, fun _ _ j k => j.js k⟩
theorem tabC_has {j : tJ dl cl Pt q H} : HasDeal (tabC K H dl cl Pt q j) dl cl := ⟨.inl rfl, .inr (.inl rfl), fun _ h => h.1, fun H H' j k D => ⟨D, fun p hp => by
  obtain ⟨cs, m, e1, e2, _⟩ := (show tJ dl cl Pt q H from j).1.ex
  obtain ⟨ps, e, t, a⟩ := (show tJ dl cl Pt q H from j).2 p hp
  have go : ∀ x o, H x = some o → (∀ xs, o ≠ .lst xs) → H' x = some o := fun x o e h => k x o (fun z => by
    subst z
    rw [e1] at e
    cases e
    exact h _ rfl) (fun z => by
    subst z
    rw [e2] at e
    cases e
    exact h _ rfl) e
  exact ⟨ps, go _ _ e (fun _ z => nomatch z), t, fun pos cv h => by
    obtain ⟨c, q1, q2⟩ := a pos cv h
    exact ⟨c, q1, go _ _ q2 fun xs z => nomatch (show HO.ext _ = HO.lst xs from z)⟩⟩⟩⟩
end
/-- a pair of a lambda and what it is to bring -/
structure Wk where
  ps : Arguments
  body : Expr
  sc : Scope
  te : TE
  u : V
  t : XK → TE
section
variable {X : Cx} {dl cl Pt : Addr} {q : Str}
def WkAt (X : Cx) (w : Wk) (v : V) (H : Hp) : Prop := ∃ (t f c' : Addr), v = .ref t ∧ H t = some (.tup [.ref f, w.u]) ∧ H f = some (LamO (X.env.qual ++ "<lambda>") w.ps w.body w.sc (cloFrom X.env.cells w.sc.names []) c' f) ∧ H c' = some (CodeO c' (X.env.qual ++ "<lambda>"))
theorem WkAt.go {w : Wk} {v : V} {H H' : Hp} (h : WkAt X w v H) (j : tJ dl cl Pt q H) (k : KS (tS dl cl Pt) H H') : WkAt X w v H' := by
  obtain ⟨t, f, c', e, h1, h2, h3⟩ := h
  exact ⟨t, f, c', e, k _ _ (j.off h1 (fun _ z => nomatch z) fun _ z => nomatch z) h1, k _ _ (j.off h2 (fun xs z => nomatch (show HO.ext _ = HO.lst xs from z)) fun xs z => nomatch (show HO.ext _ = HO.tbl xs from z)) h2, k _ _ (j.off h3 (fun xs z => nomatch (show HO.ext _ = HO.lst xs from z)) fun xs z => nomatch (show HO.ext _ = HO.tbl xs from z)) h3⟩
inductive WksAt (X : Cx) (H : Hp) : List Wk → List V → Prop
  | nil : WksAt X H [] []
  | cons {w : Wk} {v : V} {ws : List Wk} {vs : List V} : WkAt X w v H → WksAt X H ws vs → WksAt X H (w :: ws) (v :: vs)
theorem WksAt.go {H H' : Hp} (j : tJ dl cl Pt q H) (k : KS (tS dl cl Pt) H H') : ∀ {ws : List Wk} {vs : List V}, WksAt X H ws vs → WksAt X H' ws vs
  | _, _, .nil => .nil
  | _, _, .cons a b => .cons (a.go j k) (b.go j k)
theorem WksAt.get {H : Hp} : ∀ {ws : List Wk} {vs : List V} {i : Nat} {v : V}, WksAt X H ws vs → vs[i]? = some v → ∃ w, ws[i]? = some w ∧ WkAt X w v H
  | _, _, _, _, .nil, e => by cases e
  | _, _, 0, _, .cons a _, e => by cases e; exact ⟨_, rfl, a⟩
  | _, _, i + 1, _, .cons _ b, e => b.get (i := i) e
theorem WksAt.len {H : Hp} : ∀ {ws : List Wk} {vs : List V}, WksAt X H ws vs → vs.length = ws.length
  | _, _, .nil => rfl
  | _, _, .cons _ b => congrArg (· + 1) b.len
def argsW (X : Cx) (T : List (Addr × Str)) (Pt : Addr) : List Wk → TA
  | [] => tNil
  | w :: r => tCons (tTup (tCons (tLamO X T Pt w.ps w.body w.sc) (tCons w.te tNil))) (argsW X T Pt r)
theorem works_made {σ : St} (hq : q = X.env.qual ++ "<lambda>") : ∀ (ws : List Wk), (∀ w ∈ ws, ∀ H Q, Q w.u H → w.te σ H Q) → ∀ H, tJ dl cl Pt q H → ∀ Q : List V → Hp → Prop, (∀ vs H', KS (tS dl cl Pt) H H' → tJ dl cl Pt q H' → WksAt X H' ws vs → Q vs H') → argsW X [(Pt, q)] Pt ws σ H Q
  | [], _, H, j, Q, k => k [] H KS.refl j .nil
  | w :: r, hte, H, j, Q, k => by
    refine ⟨j.2, fun H1 f c' ks t1 nf hc => hte w List.mem_cons_self _ _ ⟨by show 2 ≤ sizeLine; decide, fun t ht => ?_⟩⟩
    have k1 : KS (tS dl cl Pt) H H1 := fun x o n e => ks x o (fun z => n (.inr (.inr z))) e
    have j1 : tJ dl cl Pt q H1 := by
      obtain ⟨cs, m, a1, a2, a3⟩ := j.1.ex
      obtain ⟨ps, e3⟩ := j.tbl
      have n1 : dl ≠ Pt := fun z => by rw [z, e3] at a1; cases a1
      have n2 : cl ≠ Pt := fun z => by rw [z, e3] at a2; cases a2
      exact ⟨⟨cs, m, ks _ _ n1 a1, ks _ _ n2 a2, a3⟩, t1⟩
    have s2 : Same H1 (upd H1 f (LamO (X.env.qual ++ "<lambda>") w.ps w.body w.sc (cloFrom X.env.cells w.sc.names []) c' f)) := smNew nf
    have s3 := s2.trans (smNew (o := .tup [.ref f, w.u]) ht)
    have j3 := j1.same s3
    have at_ : WkAt X w (.ref t) (upd (upd H1 f (LamO (X.env.qual ++ "<lambda>") w.ps w.body w.sc (cloFrom X.env.cells w.sc.names []) c' f)) t (.tup [.ref f, w.u])) := ⟨t, f, c', rfl, upd_same, smNew ht _ _ upd_same, s3 _ _ hc⟩
    refine works_made hq r (fun w' h => hte w' (List.mem_cons_of_mem _ h)) _ j3 _ fun vs H' k' j' wk => ?_
    exact k _ H' ((k1.trans (KS.of s3)).trans k') j' (.cons (at_.go j3 k') wk)
theorem WksAt.snoc {H : Hp} {w : Wk} {v : V} : ∀ {ws : List Wk} {vs : List V}, WksAt X H ws vs → WkAt X w v H → WksAt X H (ws ++ [w]) (vs ++ [v])
  | _, _, .nil, h => .cons h .nil
  | _, _, .cons a b, h => .cons a (b.snoc h)
/-- one pair more -/
theorem work_step {σ : St} {ps : Arguments} {body : Expr} {sc : Scope} {te : TE} {u : V} {ta : TA} (t : XK → TE) (hq : q = X.env.qual ++ "<lambda>") (hte : ∀ H Q, Q u H → te σ H Q) {H : Hp} {ws : List Wk} {vs0 : List V} (j : tJ dl cl Pt q H) (acc : WksAt X H ws vs0) {Q : List V → Hp → Prop}
    (k : ∀ v H', KS (tS dl cl Pt) H H' → tJ dl cl Pt q H' → WksAt X H' (ws ++ [⟨ps, body, sc, te, u, t⟩]) (vs0 ++ [v]) → ta σ H' fun vs H2 => Q (v :: vs) H2) : tCons (tTup (tCons (tLamO X [(Pt, q)] Pt ps body sc) (tCons te tNil))) ta σ H Q := by
  refine ⟨j.2, fun H1 f c' ks t1 nf hc => hte _ _ ⟨by show 2 ≤ sizeLine; decide, fun p hp => ?_⟩⟩
  have k1 : KS (tS dl cl Pt) H H1 := fun x o n e => ks x o (fun z => n (.inr (.inr z))) e
  have j1 : tJ dl cl Pt q H1 := by
    obtain ⟨cs, m, a1, a2, a3⟩ := j.1.ex
    obtain ⟨ps, e3⟩ := j.tbl
    have n1 : dl ≠ Pt := fun z => by rw [z, e3] at a1; cases a1
    have n2 : cl ≠ Pt := fun z => by rw [z, e3] at a2; cases a2
    exact ⟨⟨cs, m, ks _ _ n1 a1, ks _ _ n2 a2, a3⟩, t1⟩
  have s2 : Same H1 (upd H1 f (LamO (X.env.qual ++ "<lambda>") ps body sc (cloFrom X.env.cells sc.names []) c' f)) := smNew nf
  have s3 := s2.trans (smNew (o := .tup [.ref f, u]) hp)
  have kk := k1.trans (KS.of s3)
  exact k _ _ kk (j1.same s3) ((acc.go j kk).snoc ⟨p, f, c', rfl, upd_same, smNew hp _ _ upd_same, s3 _ _ hc⟩)
theorem lst_step {σ : St} {ta : TA} {i : Nat} {D : Ends} {H : Hp} (h : ta σ H fun vs H' => vs.length ≤ sizeLine ∧ ∀ p, H' p = none → D.nx (σ.set i (some (.ref p))) (upd H' p (.lst vs))) : tAsg (tLst ta) (gName i) D σ H := h
theorem fitOf {k : Nat} {ps : Arguments} {body : Expr} {sc : Scope} {te : TE} {u : V} {t : XK → TE} (h : LamFit X k ps body sc t) : LamFit X k (Wk.mk ps body sc te u t).ps (Wk.mk ps body sc te u t).body (Wk.mk ps body sc te u t).sc (Wk.mk ps body sc te u t).t := h
/-- what the lambda's body brings, at σ -/
def Brings (CN : Addr) (dl cl Pt : Addr) (q : Str) (σ : St) (H0 : Hp) (w : Wk) : Prop := ∀ H, KS (tS dl cl Pt) H0 H → tJ dl cl Pt q H → ∀ (E : XK) (Q : VK),
  ((∃ z : Str, w.u = .str z ∧ ∀ H1, KS (tS dl cl Pt) H H1 → tJ dl cl Pt q H1 → OddTold CN z H1 E) ∨ (w.u = .non ∧ ∀ v H1, KS (tS dl cl Pt) H H1 → tJ dl cl Pt q H1 → Q v H1)) → w.t E σ H Q
theorem ofD {D : Addr} {H : Hp} (j : tJ dl cl Pt q (del H D)) : tJ dl cl Pt q H := j.same fun x o e => by
  by_cases c : x = D
  · rw [c, del_self] at e
    cases e
  · rw [del_ne c] at e
    exact e
theorem toD {D : Addr} {H : Hp} (j : tJ dl cl Pt q H) (h : ∀ o, H D = some o → Soft o ∧ ¬ tS dl cl Pt D) : tJ dl cl Pt q (del H D) := j.js fun x o e k => by
  by_cases c : x = D
  · subst c
    obtain ⟨h1, h2⟩ := h o e
    exact absurd h1 (k.elim (fun z => absurd z h2) id)
  · rw [del_ne c]
    exact e
theorem brOf {CN : Addr} {σ : St} {H0 : Hp} {ps : Arguments} {body : Expr} {sc : Scope} {te : TE} {u : V} {t : XK → TE} (h : ∀ H, KS (tS dl cl Pt) H0 H → tJ dl cl Pt q H → ∀ (E : XK) (Q : VK),
    ((∃ z : Str, u = .str z ∧ ∀ H1, KS (tS dl cl Pt) H H1 → tJ dl cl Pt q H1 → OddTold CN z H1 E) ∨ (u = .non ∧ ∀ v H1, KS (tS dl cl Pt) H H1 → tJ dl cl Pt q H1 → Q v H1)) → t E σ H Q) : Brings CN dl cl Pt q σ H0 (Wk.mk ps body sc te u t) := h
theorem oddOf {z : Str} {P : Str → Prop} {P' : Prop} (h : (∃ z', V.str z = .str z' ∧ P z') ∨ (V.str z = .non ∧ P')) : P z := by
  rcases h with ⟨z', e, h⟩ | ⟨e, _⟩
  · cases e
    exact h
  · cases e
theorem noneOf {P : Str → Prop} {P' : Prop} (h : (∃ z', V.non = .str z' ∧ P z') ∨ (V.non = .non ∧ P')) : P' := by
  rcases h with ⟨z', e, h⟩ | ⟨_, h⟩
  · cases e
  · exact h
/-- [due for work, due in works if _law_none(work) != due] -/
theorem works_none {K : PySem.W.Frag} {CN : Addr} {σ : St} {H : Hp} {i a b k : Nat} {vs : List V} {ws : List Wk} {Lw : Addr} {te : TE} (hab : a ≠ b) (la : a < σ.length) (lb : b < σ.length) (hi : σ[i]? = some (some (.ref Lw))) (hL : H Lw = some (.lst vs)) (nL : ¬ tS dl cl Pt Lw) (j : tJ dl cl Pt q H) (wk : WksAt X H ws vs) (few : ws.length ≤ 1000)
    (fit : ∀ w ∈ ws, LamFit X k w.ps w.body w.sc w.t) (br : ∀ w ∈ ws, Brings CN dl cl Pt q σ H w) (kind : ∀ w ∈ ws, w.u = .non ∨ ∃ z, w.u = .str z) {Q : VK} (hQ : ∀ D H', KS (tS dl cl Pt) H H' → tJ dl cl Pt q H' → H' D = some (.lst []) → Q (.ref D) H') :
    tLc (iList K (tVar i)) (gTup K 2 (gCons (gName a) (gCons (gName b) gNil))) (tTest (tOp rNe (tHeld X k (TNone CN "name") σ (tVar a)) (tVar b))) te [a, b] σ H Q := by
  refine ⟨_, hi, Lw, rfl, ⟨vs, SqL.of hL⟩, fun D hD => ?_⟩
  refine lcG (walk_list (K := K) (a := Lw) (xs := vs)) (tS dl cl Pt) (fun H => tJ dl cl Pt q (del H D)) (fun _ => false) (fun _ _ _ => True) hD j.al (fun H o j n => ?_) (toD j fun o e => (by rw [hD] at e; cases e)) (by rw [wk.len]; exact few) (fun H' k' => SqL.of (k' _ _ nL hL)) ?_ ?_
  · have z : del (upd H D o) D = del H D := by
      funext x
      by_cases c : x = D
      · rw [c, del_self, del_self]
      · rw [del_ne c, del_ne c, upd_ne c]
    rw [z]
    exact j
  · rintro i x H1 _ KT KF hi k1 j1 ⟨acc, eD⟩ ⟨rfl, hx⟩ kt kf
    have j1 := ofD j1
    obtain ⟨w, hw, at_⟩ := (wk.go j k1).get hx
    have mw := List.mem_of_getElem? hw
    obtain ⟨t, f, c', rfl, e1, e2, e3⟩ := at_
    refine ⟨t, _, rfl, SqT.of e1, rfl, _, _, rfl, _, _, rfl, rfl, ?_⟩
    have lw : ∀ vs : List Nat, (L2.wipe σ vs).length = σ.length := fun vs => wipe_length σ vs
    have sa : (((L2.wipe σ [a, b]).set a (some (V.ref f))).set b (some w.u))[a]? = some (some (V.ref f)) := by
      rw [List.getElem?_set_ne hab.symm, List.getElem?_set_self (by rw [lw]; exact la)]
    have sb : (((L2.wipe σ [a, b]).set a (some (V.ref f))).set b (some w.u))[b]? = some (some w.u) := by
      rw [List.getElem?_set_self (by rw [List.length_set, lw]; exact lb)]
    refine ⟨by rw [wipe_set (by simp), wipe_set (by simp), wipe_idem], _, sa, f, c', _, _, _, _, rfl, fit w mw, e3, e2, ?_⟩
    -- what is asked behind the call
    have fin : ∀ H2, KS (tS dl cl Pt) _ H2 → tJ dl cl Pt q H2 → KF H2 := fun H2 k2 j2 => kf H2 rfl k2 (toD j2 fun o e => by
      rw [k2 D _ (j.al.off hD) eD] at e
      cases e
      exact ⟨True.intro, j.al.off hD⟩)
    refine ⟨e2, br w mw _ k1 j1 _ _ ?_⟩
    rcases kind w mw with e | ⟨z, e⟩
    · refine .inr ⟨e, fun v H2 k2 j2 => ⟨_, sb, ?_⟩⟩
      rw [e]
      refine ⟨rfl, _, rfl, ?_⟩
      rw [decide_eq_true rfl]
      exact fin H2 k2 j2
    · refine .inl ⟨z, e, fun H2 k2 j2 d H3 s3 ed => ⟨rfl, d, _, .str z, rfl, ed, rfl, _, sb, ?_⟩⟩
      rw [e]
      refine ⟨rfl, _, rfl, ?_⟩
      rw [decide_eq_true rfl]
      exact fin H3 (k2.trans (KS.of s3)) (j2.same s3)
  · intro H' acc k' j' e it
    have z : acc = [] := List.length_eq_zero_iff.mp (by
      rw [it.1]
      unfold idx
      rw [List.filter_eq_nil_iff.mpr fun _ _ z => Bool.noConfusion z]
      rfl)
    subst z
    exact hQ D H' k' (ofD j') e
end
end L2.Da


namespace L2.Da
open PySem L2 L2.Bv L2.Pc L2.Ts L2.K2 PyProof.Rows LamX
section
variable {c : Cf} {Γ : Gm} {te : TE} {K : PySem.W.Frag} {O : Own} {H : Hp} {σ : St} {D : Ends}
/-- a, b, c = .. of which more may come -/
theorem s_asgr {α : Type} {PP : α → Prop} {e : α → PyData} {g : TG} {ix : List Nat} {up : Gm → α → Gm} (G : Good c O H σ Γ) (he : Vr c Γ te fun y => ∃ a, PP a ∧ y = e a) (hg : Tg c g ix e up) (k : ∀ a σ' H', PP a → Good c O H' σ' (up Γ a) → D.nx σ' H') : tAsg te g D σ H :=
  he O H σ G _ fun v H' k1 j1 ⟨y, ⟨a, pa, ey⟩, d⟩ => hg O H' σ Γ v a (G.go k1 j1) (ey ▸ d) _ fun σ2 _ G2 => k a σ2 H' pa G2
theorem vr_tup3 {ta tb tc : TE} {Ra Rb Rc : PyData → Prop} (h : Vr c Γ ta Ra) (k : Vr c Γ tb Rb) (l : Vr c Γ tc Rc) : Vr c Γ (tTup (tCons ta (tCons tb (tCons tc tNil)))) fun y => ∃ a b d, Ra a ∧ Rb b ∧ Rc d ∧ y = .tuple [a, b, d] := fun O H σ G Q q => by
  refine h O H σ G _ fun v H1 k1 j1 ⟨a, ra, da⟩ => k O H1 σ (G.go k1 j1) _ fun u H2 k2 j2 ⟨b, rb, db⟩ => l O H2 σ ((G.go k1 j1).go k2 j2) _ fun x H3 k3 j3 ⟨d, rd, dd⟩ => ⟨by show 3 ≤ sizeLine; decide, fun p hp => ?_⟩
  have G3 := ((G.go k1 j1).go k2 j2).go k3 j3
  exact q _ _ (((k1.trans k2).trans k3).trans (KS.new hp)) (G3.js' (smNew hp)) ⟨_, ⟨a, b, d, ra, rb, rd, rfl⟩, dqTup G3.al hp (.cons (Dq.go (Dq.go da (k2.sub fun _ => dsM)) (k3.sub fun _ => dsM)) (.cons (Dq.go db (k3.sub fun _ => dsM)) (.cons dd .nil)))⟩
/-- a strange name, at this state -/
theorem call_odd {C CN : Addr} {w : PkW} {i : Nat} {R : PkW → List PyData → PyData → Prop} {R' : PkW → List PyData → Str → Prop} {E : XK} {tA : TA} {ds : List PyData} {z : Str} (hK : K = c.K) (hi : Γ[i]? = some (some (.p (isPk K C w)))) (F : PkFix w) (h : VA c Γ tA ds) (r : R' w ds z) (G : Good c O H σ Γ)
    (ho : ∀ H1, KS c.M H H1 → c.J H1 → OddTold CN z H1 E) (Q : VK) : tCall (spX K C CN R R') [] E (tCons (tVar i) tA) σ H Q := by
  subst hK
  obtain ⟨v, hv, st⟩ := G.at_ i _ hi
  obtain rfl : v = .ref w.x := st.now.1
  refine ⟨_, hv, h O H σ G _ fun vs H1 k1 j1 p1 => ?_⟩
  have G1 := G.go k1 j1
  obtain ⟨v', hv', st'⟩ := G1.at_ i _ hi
  rw [hv] at hv'
  cases hv'
  exact ⟨DS c O, w, vs, ds, by rw [List.append_nil], G1.al, F, fun H2 k2 => (st' H2 k2).2, p1, .inr ⟨z, r, ho H1 k1 j1⟩⟩
end
end L2.Da
namespace L2.K2
open PySem L2 L2.Bv L2.Pc L2.Ts L2.Da PyProof.Rows Bov LamX
abbrev sNone : Stmt := top 52
abbrev sStr : Stmt := top 58
abbrev nStr : List Str := ["heap", "pact", "hands", "names", "some", "odd", "other", "note", "strange", "lot", "first", "works", "word", "name", "work", "due"]
theorem scStr : FnScope nStr ["heap", "pact", "hands", "names"] (defScope sStr) := ⟨rfl, rfl, rfl, by decide +kernel, rfl, by decide +kernel, by decide +kernel⟩
theorem scNo2 : FnScope ["work", "wrong"] ["work"] (defScope sNone) := ⟨rfl, rfl, rfl, by decide +kernel, rfl, by decide +kernel, by decide +kernel⟩
/-- the name of such a def's inner ones -/
def qStr : Str := (envOfC "_law_strangers_right" (defScope sStr) 0 0 .none).qual ++ "<lambda>"
def spStr (K : PySem.W.Frag) (C Pt : Addr) : Sp := fun vs H Q _ => ∃ (dl cl : Addr) (w : PkW) (hv nv : V) (j : tJ dl cl Pt qStr H), vs = [.ref dl, .ref w.x, hv, nv] ∧ PkFix w ∧ St' (tS dl cl Pt) H (PkHolds K C w) ∧ Dq K (tS dl cl Pt) H hv (strL w.hs) ∧ Dq K (tS dl cl Pt) H nv (strL (nms w)) ∧
  ∀ H', tJ dl cl Pt qStr H' → KS (tS dl cl Pt) H H' → Q (.bl true) H'
theorem cutStrs (zs : List Str) (lo hi : Option Int) : ∃ ys : List Str, Da.cutD (zs.map PyData.str) lo hi = ys.map .str ∧ ys.length ≤ zs.length := by
  refine ⟨(zs.drop (HT.sIx (zs.map PyData.str).length 0 lo)).take (HT.sIx (zs.map PyData.str).length (zs.map PyData.str).length hi - HT.sIx (zs.map PyData.str).length 0 lo), ?_, ?_⟩
  · unfold Da.cutD
    rw [List.map_take, List.map_drop]
  · rw [List.length_take, List.length_drop]
    omega
theorem ret_step {tl tr : TE} {K : PySem.W.Frag} {D : Ends} {σ : St} {H : Hp} (h : tl σ H fun v H1 => tr σ H1 fun u H2 => rEqD K v u H2 D.rt) : tRet (tOp (rEqD K) tl tr) D σ H := h
theorem strAtG {c : Cf} {O : Own} {H : Hp} {σ : St} {Γ : Gm} {i : Nat} {z : Str} (G : Good c O H σ Γ) (h : Γ[i]? = some (some (.d (.str z)))) : σ[i]? = some (some (.str z)) := by
  obtain ⟨v, hv, d⟩ := G.at_ i _ h
  have d : Dq c.K (DS c O) H v (.str z) := d
  cases d
  exact hv
theorem notNm {z : Str} (h : z.length = 0) : ¬ IsNm z := fun q => by
  have := q.1
  omega
theorem split_at {p : Str → Bool} : ∀ {l : List Str}, (∃ z ∈ l, p z = true) → ∃ pre z post, l = pre ++ z :: post ∧ p z = true ∧ (∀ y ∈ pre, p y = false) ∧ (l.filter p).head? = some z
  | [], h => by
    obtain ⟨z, m, _⟩ := h
    cases m
  | a :: r, h => by
    by_cases c : p a = true
    · exact ⟨[], a, r, rfl, c, fun y m => (by cases m), by rw [List.filter_cons, if_pos c]; rfl⟩
    · obtain ⟨z, m, pz⟩ := h
      rcases List.mem_cons.mp m with rfl | m
      · exact absurd pz c
      · obtain ⟨pre, z', post, e, q1, q2, q3⟩ := split_at (l := r) ⟨z, m, pz⟩
        refine ⟨a :: pre, z', post, by rw [e]; rfl, q1, fun y hy => ?_, by rw [List.filter_cons, if_neg c]; exact q3⟩
        rcases List.mem_cons.mp hy with rfl | hy
        · exact eq_false_of_ne_true c
        · exact q2 y hy
section
variable {P : Program} {w0 : World} {K : PySem.W.Frag} {mg : Str → Option Value} {base : Heap} {C CN c Pt : Addr} {bm : List Value}
theorem ok_str {f gN : Addr} {oc kV doc pm ct : Value} {od an : Option Addr} {osl : Array (Option Value)} {oc2 kV2 doc2 pm2 ct2 cdv2 : Value} {od2 an2 : Option Addr} {osl2 : Array (Option Value)}
    (lk : K.lookup f = some ⟨oc, od, .func (PySem.W.fnOf "_law_strangers_right" "_law_strangers_right" (defArgs sStr) (defBody sStr) (defScope sStr) .none kV doc pm an (.ref c) ct), osl⟩) (hcd : PySem.W.codeIn K (.ref c) "_law_strangers_right" = true) (TB : TabB base mg c Pt)
    (lk2 : K.lookup gN = some ⟨oc2, od2, .func (PySem.W.fnOf "_law_none" "_law_none" (defArgs sNone) (defBody sNone) (defScope sNone) .none kV2 doc2 pm2 an2 cdv2 ct2), osl2⟩) (hcd2 : PySem.W.codeIn K cdv2 "_law_none" = true) (k2 : PySem.W.keepIn K (.ref gN) = true) (m2 : mg "_law_none" = some (.ref gN))
    (b2 : Binds K (PySem.W.fnOf "_law_none" "_law_none" (defArgs sNone) (defBody sNone) (defScope sNone) .none kV2 doc2 pm2 an2 cdv2 ct2) ["work"] [])
    (TEc : EC K CN bm) (no : PySem.W.findIn K (.ref CN) "name" = some none) (mN : mg "NoName" = some (.ref CN))
    {gO : Addr} {fdO : FuncData} (O : FnOk P w0 K mg base CX0 2 gO fdO ["heap", "some"] (spD K prePi rPi)) (kO : PySem.W.keepIn K (.ref gO) = true) (bO : Binds K fdO ["heap", "some"] []) (mO : mg "_law_pick" = some (.ref gO))
    {gLu : Addr} {fdLu : FuncData} (Lu : FnOk P w0 K mg base (L2.CX P w0) 4 gLu fdLu ["pact", "one", "other"] (spX K C CN rLi rLiX)) (kLu : PySem.W.keepIn K (.ref gLu) = true) (bLu : Binds K fdLu ["pact", "one", "other"] []) (mLu : mg "lies_under" = some (.ref gLu)) (kbLu : KBinds K fdLu ["pact", "one", "other"] ["other", "one", "pact"] (fun us ws => if us = [] then ws.reverse else []) (fun vs zs => if vs = [] then zs.reverse else []))
    {gUo : Addr} {fdUo : FuncData} (Uo : FnOk P w0 K mg base (L2.CX P w0) 4 gUo fdUo ["pact", "note"] (spX K C CN rUo rNumX)) (kUo : PySem.W.keepIn K (.ref gUo) = true) (bUo : Binds K fdUo ["pact", "note"] []) (mUo : mg "under_of" = some (.ref gUo))
    {gHo : Addr} {fdHo : FuncData} (Ho : FnOk P w0 K mg base (L2.CX P w0) 4 gHo fdHo ["pact", "note"] (spX K C CN rHo rNumX)) (kHo : PySem.W.keepIn K (.ref gHo) = true) (bHo : Binds K fdHo ["pact", "note"] []) (mHo : mg "hand_of" = some (.ref gHo))
    {gCo : Addr} {fdCo : FuncData} (Co : FnOk P w0 K mg base (L2.CX P w0) 4 gCo fdCo ["pact", "lot"] (spX K C CN rCo rCoX)) (kCo : PySem.W.keepIn K (.ref gCo) = true) (bCo : Binds K fdCo ["pact", "lot"] []) (mCo : mg "closure_of" = some (.ref gCo))
    {gNo : Addr} {fdNo : FuncData} (No : FnOk P w0 K mg base (L2.CX P w0) 4 gNo fdNo ["pact", "hand"] (spX K C CN rNo rHndX)) (kNo : PySem.W.keepIn K (.ref gNo) = true) (bNo : Binds K fdNo ["pact", "hand"] []) (mNo : mg "notes_of" = some (.ref gNo))
    {gKn : Addr} {fdKn : FuncData} (Kn : FnOk P w0 K mg base (L2.CX P w0) 4 gKn fdKn ["pact", "hand"] (spX K C CN rKn rHndX)) (kKn : PySem.W.keepIn K (.ref gKn) = true) (bKn : Binds K fdKn ["pact", "hand"] []) (mKn : mg "key_note" = some (.ref gKn))
    {gRn : Addr} {fdRn : FuncData} (Rn : FnOk P w0 K mg base (L2.CX P w0) 4 gRn fdRn ["pact", "hand"] (spX K C CN rRn rHndX)) (kRn : PySem.W.keepIn K (.ref gRn) = true) (bRn : Binds K fdRn ["pact", "hand"] []) (mRn : mg "ready_note" = some (.ref gRn))
    (mt : mg "tuple" = none) (mS : mg "sorted" = none) (ms : mg "set" = none) :
    FnG P w0 K mg base CX0 7 f (PySem.W.fnOf "_law_strangers_right" "_law_strangers_right" (defArgs sStr) (defBody sStr) (defScope sStr) .none kV doc pm an (.ref c) ct) ["heap", "pact", "hands", "names"] (spStr K C Pt) := by
  refine okGc lk hcd scStr (fun vs H Q E h => ?_) (fun A outer s H vs Q E hr hgd h => ?_)
  · obtain ⟨dl, cl, w, hv, nv, j, rfl, _⟩ := h
    rfl
  obtain ⟨dl, cl, w, hv, nv, j, rfl, F, st, dh, dn, q⟩ := h
  have hu := hr.units
  have hr2 : Room 2 _ := hr.mono (by decide)
  refine ⟨_, pss_cons (ps_setLc (i := 4) (own := [("word", 12)]) (g := gName 12) (tt := _) rfl scStr.nd rfl rfl (sw_true rfl rfl rfl (by decide +kernel)) (pi_listK (K := K) rfl (pe_op op_catR (pe_op op_catR (pe_lst (pa_cons pe_str (pa_cons pe_str (pa_cons pe_str (pa_cons pe_str (pa_cons pe_str pa_nil)))))) (pv 2)) (pe_slice (slLK (K := K) rfl) (pv 3) po_none (po_some pe_int)))) (blkOk_by (N := nStr) (sc := defScope sStr) (by decide +kernel)) (fun _ _ _ _ _ => pg_name (i := 12) scStr.nd rfl (Or.inl rfl)) (fun _ _ _ _ _ => pts_one (pt_cmpR (notInSeqK (K := K) rfl) (pv 12) (pv 3) (by rfl))) (fun _ _ _ _ _ => pv 12))
    (pss_cons (ps_asg (pe_tup (pa_cons (pe_call O hr2 rfl mO kO bO .nil pass0 (pa_cons (pv 0) (pa_cons (pv 4) pa_nil))) (pa_cons (pe_call O hr2 rfl mO kO bO .nil pass0 (pa_cons (pv 0) (pa_cons (pv 4) pa_nil))) (pa_cons (pe_call O hr2 rfl mO kO bO .nil pass0 (pa_cons (pv 0) (pa_cons (pv 3) pa_nil))) pa_nil)))) (pg_tupK (K := K) rfl rfl (pgs_cons (pg_name (i := 5) scStr.nd rfl (Or.inr rfl)) (pgs_cons (pg_name (i := 6) scStr.nd rfl (Or.inr rfl)) (pgs_cons (pg_name (i := 7) scStr.nd rfl (Or.inr rfl)) pgs_nil))) rfl))
    (pss_cons (ps_set (i := 8) scStr.nd rfl (Or.inr rfl) (pe_call O hr2 rfl mO kO bO .nil pass0 (pa_cons (pv 0) (pa_cons (pe_lc (own := [("word", 12)]) (g := gName 12) (tt := _) rfl scStr.nd (pi_listK (K := K) rfl (pe_op op_catR (pe_lst (pa_cons pe_str (pa_cons pe_str (pa_cons pe_str (pa_cons pe_str pa_nil))))) (pv 3))) (blkOk_by (N := nStr) (sc := defScope sStr) (by decide +kernel)) (fun _ _ _ _ _ => pg_name (i := 12) scStr.nd rfl (Or.inl rfl)) (fun _ _ _ _ _ => pts_one (pt_cmpR (notInSeqK (K := K) rfl) (pv 12) (pv 2) (by rfl))) (fun _ _ _ _ _ => pv 12)) pa_nil))))
    (pss_cons (ps_set (i := 9) scStr.nd rfl (Or.inr rfl) (pe_callTy (tupOfK (K := K) rfl) (by rfl) mt (by decide +kernel) (pa_cons (pe_callB (cr_sortT rfl) (by rfl) mS (by decide +kernel) (pa_cons (pe_callTy (setTK (K := K) rfl rfl) (by rfl) ms (by decide +kernel) (pa_cons (pe_lst (pa_cons (pv 7) (pa_cons (pv 5) (pa_cons (pv 6) pa_nil)))) pa_nil)) pa_nil)) pa_nil)))
    (pss_cons (ps_set (i := 10) scStr.nd rfl (Or.inl rfl) (pe_ix (ixListK (K := K) rfl) (pe_lc (own := [("name", 13)]) (g := gName 13) (tt := _) rfl scStr.nd (pi_tupK (K := K) rfl (pv 9)) (blkOk_by (N := nStr) (sc := defScope sStr) (by decide +kernel)) (fun _ _ _ _ _ => pg_name (i := 13) scStr.nd rfl (Or.inl rfl)) (fun _ _ _ _ _ => pts_one (pt_cmpR (notInSeqK (K := K) rfl) (pv 13) (pv 3) (by rfl))) (fun _ _ _ _ _ => pv 13)) pe_int (fun _ _ => rfl)))
    (pss_cons (ps_set (i := 11) scStr.nd rfl (Or.inl rfl) (pe_lst (pa_cons (pe_tup (pa_cons (pe_lamO (T := [(Pt, qStr)]) TB rfl List.mem_cons_self (fun y hy _ => by rw [List.mem_singleton.mp hy] <;> rfl) (lamS_by (sc := defScope sStr) (by decide +kernel)) rfl) (pa_cons (pv 5) pa_nil))) (pa_cons (pe_tup (pa_cons (pe_lamO (T := [(Pt, qStr)]) TB rfl List.mem_cons_self (fun y hy _ => by rw [List.mem_singleton.mp hy] <;> rfl) (lamS_by (sc := defScope sStr) (by decide +kernel)) rfl) (pa_cons (pv 5) pa_nil))) (pa_cons (pe_tup (pa_cons (pe_lamO (T := [(Pt, qStr)]) TB rfl List.mem_cons_self (fun y hy _ => by rw [List.mem_singleton.mp hy] <;> rfl) (lamS_by (sc := defScope sStr) (by decide +kernel)) rfl) (pa_cons (pv 5) pa_nil))) (pa_cons (pe_tup (pa_cons (pe_lamO (T := [(Pt, qStr)]) TB rfl List.mem_cons_self (fun y hy _ => by rw [List.mem_singleton.mp hy] <;> rfl) (lamS_by (sc := defScope sStr) (by decide +kernel)) rfl) (pa_cons pe_non pa_nil))) (pa_cons (pe_tup (pa_cons (pe_lamO (T := [(Pt, qStr)]) TB rfl List.mem_cons_self (fun y hy _ => by rw [List.mem_singleton.mp hy] <;> rfl) (lamS_by (sc := defScope sStr) (by decide +kernel)) rfl) (pa_cons (pv 5) pa_nil))) (pa_cons (pe_tup (pa_cons (pe_lamO (T := [(Pt, qStr)]) TB rfl List.mem_cons_self (fun y hy _ => by rw [List.mem_singleton.mp hy] <;> rfl) (lamS_by (sc := defScope sStr) (by decide +kernel)) rfl) (pa_cons (pv 5) pa_nil))) (pa_cons (pe_tup (pa_cons (pe_lamO (T := [(Pt, qStr)]) TB rfl List.mem_cons_self (fun y hy _ => by rw [List.mem_singleton.mp hy] <;> rfl) (lamS_by (sc := defScope sStr) (by decide +kernel)) rfl) (pa_cons (pv 10) pa_nil))) (pa_cons (pe_tup (pa_cons (pe_lamO (T := [(Pt, qStr)]) TB rfl List.mem_cons_self (fun y hy _ => by rw [List.mem_singleton.mp hy] <;> rfl) (lamS_by (sc := defScope sStr) (by decide +kernel)) rfl) (pa_cons (pv 8) pa_nil))) (pa_cons (pe_tup (pa_cons (pe_lamO (T := [(Pt, qStr)]) TB rfl List.mem_cons_self (fun y hy _ => by rw [List.mem_singleton.mp hy] <;> rfl) (lamS_by (sc := defScope sStr) (by decide +kernel)) rfl) (pa_cons (pv 8) pa_nil))) (pa_cons (pe_tup (pa_cons (pe_lamO (T := [(Pt, qStr)]) TB rfl List.mem_cons_self (fun y hy _ => by rw [List.mem_singleton.mp hy] <;> rfl) (lamS_by (sc := defScope sStr) (by decide +kernel)) rfl) (pa_cons (pv 8) pa_nil))) pa_nil))))))))))))
    (pss_one (ps_ret (pe_cmpR (eqDK (K := K) rfl hu) (pe_lcN (own := [("work", 14), ("due", 15)]) (g := gTup K 2 (gCons (gName 14) (gCons (gName 15) gNil))) (tt := fun σ0 => tTest (tOp rNe (tHeld _ 4 (TNone CN "name") σ0 (tVar 14)) (tVar 15))) (te := fun _ => tVar 15) rfl scStr.nd (pi_listK (K := K) rfl (pv 11)) (blkOk_by (N := nStr) (sc := defScope sStr) (by decide +kernel))
      (fun _ _ _ _ _ _ => pg_tupK (K := K) rfl rfl (pgs_cons (pg_name (i := 14) scStr.nd rfl (Or.inl rfl)) (pgs_cons (pg_name (i := 15) scStr.nd rfl (Or.inl rfl)) pgs_nil)) rfl)
      (fun _ _ _ _ _ _ _ inx => pts_one (pt_cmpR op_ne (pe_held (k := 4) (Ng := ["work", "wrong"]) rfl inx rfl m2 k2 lk2 hcd2 b2 scNo2 rfl (Or.inl rfl) (noneGives (n := "wrong") TEc no rfl mN rfl (fun _ => rfl) scNo2.nd rfl rfl rfl (Or.inl rfl) rfl rfl rfl) hr (pv 14)) (pv 15) (nomark _)))
      (fun _ _ _ _ _ _ _ _ => pv 15)) (pe_lst pa_nil) (nomark _))))))))), ?_⟩
  have n40 := F.ok.forty
  have n2 := F.ok.two
  have six := F.ok.hd.six
  have nC : ∀ x, DS (tabC K H dl cl Pt qStr j) [] x → tS dl cl Pt x := fun x z => z.elim id fun q => by cases q
  have G : Good (tabC K H dl cl Pt qStr j) [] H (start nStr [.ref dl, .ref w.x, hv, nv]) (startE nStr [.p (isR dl), .p (isPk K C w), .d (strL w.hs), .d (strL (nms w))]) :=
    gen_start rfl rfl rfl j (.cons (St'.pure (show isR dl H (.ref dl) from rfl)) (.cons (St'.mono (St'.sub nC st) fun H' h => ⟨rfl, h⟩) (.cons (Dq.sub (S := tS dl cl Pt) dh nC) (.cons (Dq.sub (S := tS dl cl Pt) dn nC) .nil)))) fun e he => by
      rcases List.mem_cons.mp he with rfl | he
      · exact True.intro
      rcases List.mem_cons.mp he with rfl | he
      · exact True.intro
      rcases List.mem_cons.mp he with rfl | he
      · exact True.intro
      · rw [List.mem_singleton.mp he]
        exact True.intro
  have hd : HasDeal (tabC K H dl cl Pt qStr j) dl cl := tabC_has
  have pick : ∀ {Γ : Gm} {ta : TE} {zs : List Str}, Γ[0]? = some (some (.p (isR dl))) → Vd (tabC K H dl cl Pt qStr j) Γ ta (strL zs) → 1 ≤ zs.length → zs.length ≤ 1000 → Vr (tabC K H dl cl Pt qStr j) Γ (tCall (spD K prePi rPi) [] E0 (tCons (tVar 0) (tCons ta tNil))) fun y => ∃ z, z ∈ zs ∧ y = .str z := fun {Γ ta zs} h0 h2' l1 l2 => Vx.mono (v_callD hd rfl h0 (va_cons h2' va_nil) ⟨_, rfl, by rw [List.length_map]; exact l1, by rw [List.length_map]; exact l2⟩) fun O H v ⟨y, ⟨xs, e, hm⟩, d⟩ => by
    cases e
    obtain ⟨z, hz, rfl⟩ := List.mem_map.mp hm
    exact ⟨_, ⟨z, hz, rfl⟩, d⟩
  obtain ⟨cut, ecut, lcut⟩ := cutStrs (nms w) none (some 2)
  rw [nms_len] at lcut
  let pre0 : List Str := [Str.ofString "", Str.ofString "q", Str.ofString "zz", Str.ofString "A b", Str.ofString "abcdefghi"]
  let all0 : List Str := (pre0 ++ w.hs) ++ cut
  let some0 : List Str := all0.filter fun z => !decide (z ∈ nms w)
  have e0 : Str.ofString "" ∈ some0 := List.mem_filter.mpr ⟨List.mem_append_left _ (List.mem_append_left _ List.mem_cons_self), by
    rw [decide_eq_false fun m => notNm (z := Str.ofString "") rfl (nms_nm F m)]
    rfl⟩
  have l0 : all0.length ≤ 60 := by
    show ((pre0 ++ w.hs) ++ cut).length ≤ 60
    rw [List.length_append, List.length_append]
    show 5 + w.hs.length + cut.length ≤ 60
    omega
  have ls0 : some0.length ≤ 60 := Nat.le_trans (List.length_filter_le _ _) l0
  refine seq (s_set (x := strL some0) G ((lc_f (as := all0) (ea := .str) (f := .str) (p := fun z => !decide (z ∈ nms w)) (vi_list rfl ((f_cat (xs := (pre0 ++ w.hs).map PyData.str) (ys := cut.map PyData.str) ((f_cat (xs := pre0.map PyData.str) (ys := w.hs.map PyData.str) (v_lst (va_cons (v_str _) (va_cons (v_str _) (va_cons (v_str _) (va_cons (v_str _) (va_cons (v_str _) va_nil))))) (by show 5 ≤ sizeLine; decide)) (v_vd rfl) (szOf (by rw [List.length_map, List.length_map]; show 5 + w.hs.length ≤ 1000000; omega))).eq (by rw [List.map_append])).d ((f_slL rfl (v_vd (x := strL (nms w)) rfl) vo_no (vo_some (v_int 2).w) (szOf (by rw [List.length_map, nms_len]; omega))).eq ecut).d (szOf (by rw [List.length_map, List.length_map, List.length_append]; show 5 + w.hs.length + cut.length ≤ 1000000; omega))).eq (by show _ = ((pre0 ++ w.hs) ++ cut).map PyData.str; simp only [List.map_append])).d) (szOf (by omega)) (tg_name 12) (by simp) (fun z hz => t_B (v_ninL rfl (v_vd (x := .str z) rfl).w (v_vd rfl).w).w) fun z hz _ => v_vd (x := .str z) rfl).d) fun σ' H' G => ?_)
  refine seq (s_asgr (α := Str × Str × Str) (PP := fun a => a.1 ∈ some0 ∧ a.2.1 ∈ some0 ∧ a.2.2 ∈ nms w) (e := fun a => .tuple [.str a.1, .str a.2.1, .str a.2.2]) G (Vx.mono (vr_tup3 (pick rfl (v_vd (x := strL some0) rfl) (List.length_pos_of_mem e0) (by omega)) (pick rfl (v_vd (x := strL some0) rfl) (List.length_pos_of_mem e0) (by omega)) (pick rfl (v_vd (x := strL (nms w)) rfl) (by rw [nms_len]; omega) (by rw [nms_len]; omega))) fun O H v ⟨y, ⟨a, b, d, ⟨z1, m1, e1⟩, ⟨z2, m2, e2⟩, ⟨z3, m3, e3⟩, e⟩, dd⟩ => ⟨y, ⟨(z1, z2, z3), ⟨m1, m2, m3⟩, by rw [e, e1, e2, e3]⟩, dd⟩) (tg_three rfl (fun _ => rfl) 5 6 7) ?_)
  rintro ⟨odd, other, note⟩ σ' H' ⟨mo, mo2, mn⟩ G
  dsimp only
  have oddN : odd ∉ nms w := fun m => by
    have z := (List.mem_filter.mp mo).2
    rw [decide_eq_true m] at z
    cases z
  let pre1 : List Str := [Str.ofString "", Str.ofString "q", Str.ofString "zz", Str.ofString "A b"]
  let some1 : List Str := (pre1 ++ nms w).filter fun z => !decide (z ∈ w.hs)
  have e1 : Str.ofString "" ∈ some1 := List.mem_filter.mpr ⟨List.mem_append_left _ List.mem_cons_self, by
    rw [decide_eq_false fun m => notNm (z := Str.ofString "") rfl (hs_nm F m)]
    rfl⟩
  have l1 : (pre1 ++ nms w).length ≤ 60 := by
    rw [List.length_append, nms_len]
    show 4 + w.ns.length ≤ 60
    omega
  have ls1 : some1.length ≤ 60 := Nat.le_trans (List.length_filter_le _ _) l1
  refine seq (s_setr (R := fun y => ∃ z, z ∈ some1 ∧ y = .str z) G (pick rfl ((lc_f (as := pre1 ++ nms w) (ea := .str) (f := .str) (p := fun z => !decide (z ∈ w.hs)) (vi_list rfl ((f_cat (xs := pre1.map PyData.str) (ys := (nms w).map PyData.str) (v_lst (va_cons (v_str _) (va_cons (v_str _) (va_cons (v_str _) (va_cons (v_str _) va_nil)))) (by show 4 ≤ sizeLine; decide)) (v_vd rfl) (szOf (by rw [List.length_map, List.length_map, nms_len]; show 4 + w.ns.length ≤ 1000000; omega))).eq (by rw [List.map_append])).d) (szOf (by omega)) (tg_name 12) (by simp) (fun z hz => t_B (v_ninL (zs := w.hs) rfl (v_vd (x := .str z) rfl).w (v_vd rfl).w).w) fun z hz _ => v_vd (x := .str z) rfl).d) (List.length_pos_of_mem e1) (by omega)) ?_)
  rintro _ σ' H' ⟨strange, ms1, rfl⟩ G
  dsimp only
  have strN : strange ∉ w.hs := fun m => by
    have z := (List.mem_filter.mp ms1).2
    rw [decide_eq_true m] at z
    cases z
  let lot : List Str := srt (once [note, odd, other])
  have llot : lot.length ≤ 3 := by
    show (srt (once [note, odd, other])).length ≤ 3
    rw [srt_len]
    exact once_len _
  have mlot : ∀ z, z ∈ lot ↔ z = note ∨ z = odd ∨ z = other := fun z => by
    show z ∈ srt (once [note, odd, other]) ↔ _
    rw [srt_mem, once_mem]
    simp
  refine seq (s_set (x := strT lot) G (Vr.w1 (vr_tupL (R := fun y => ∃ xs : List Str, xs = [note, odd, other] ∧ y = .list ((srt (once xs)).map .str)) rfl (vr_sortSet (Rx := fun xs => xs = [note, odd, other]) rfl (Vd.r (x := strL [note, odd, other]) (v_lst (va_cons (v_vd rfl) (va_cons (v_vd rfl) (va_cons (v_vd rfl) va_nil))) (by show 3 ≤ sizeLine; decide)) ⟨_, rfl, by show 3 < 64; decide, rfl⟩)) ?_) ?_) fun σ' H' G => ?_)
  · rintro _ ⟨xs, _, rfl⟩
    exact ⟨_, rfl⟩
  · rintro y ⟨xs, ⟨xs1, rfl, e⟩, rfl⟩
    cases e
    rfl
  obtain ⟨lpre, first, lpost, elot, q1, q2, q3⟩ := split_at (p := fun z => !decide (z ∈ nms w)) (l := lot) ⟨odd, (mlot odd).mpr (.inr (.inl rfl)), by rw [decide_eq_false oddN]; rfl⟩
  have firN : first ∉ nms w := fun m => by
    rw [decide_eq_true m] at q1
    cases q1
  refine seq (s_set (x := .str first) G (v_ixL rfl ((lc_f (as := lot) (ea := .str) (f := .str) (p := fun z => !decide (z ∈ nms w)) (vi_tup rfl (v_vd (x := strT lot) rfl)) (szOf (by omega)) (tg_name 13) (by simp) (fun z hz => t_B (v_ninL (zs := nms w) rfl (v_vd (x := .str z) rfl).w (v_vd rfl).w).w) fun z hz _ => v_vd (x := .str z) rfl).d) (v_int 0).w ?_) fun σ' H' G => ?_)
  · refine atI_nat (j := 0) ?_
    rw [List.getElem?_map, ← List.head?_eq_getElem?, q3]
    rfl
  -- the pairs
  let Γf : Gm := [some (.p (isR dl)), some (.p (isPk K C w)), some (.d (strL w.hs)), some (.d (strL (nms w))), some (.d (strL some0)), some (.d (.str odd)), some (.d (.str other)), some (.d (.str note)), some (.d (.str strange)), some (.d (strT lot)), some (.d (.str first)), none, none, none, none, none]
  have G : Good (tabC K H dl cl Pt qStr j) [] H' σ' Γf := G
  have s5 := strAtG (i := 5) G rfl
  have s8 := strAtG (i := 8) G rfl
  have s10 := strAtG (i := 10) G rfl
  have oddNt : NoNt w.ns odd := fun i li e => oddN (nms_mem.mpr ⟨i, li, e⟩)
  have firNt : NoNt w.ns first := fun i li e => firN (nms_mem.mpr ⟨i, li, e⟩)
  obtain ⟨ni, lni, eni⟩ := nms_mem.mp mn
  dsimp only
  refine seq (lst_step ?_)
  let XX : Cx := (cxOf CX0 P w0 K mg base nStr "_law_strangers_right" (defScope sStr) f (.ref c) A outer s H E).nox
  have hq : qStr = XX.env.qual ++ "<lambda>" := rfl
  have J0 : tJ dl cl Pt qStr H' := G.j
  refine work_step (X := XX) (dl := dl) (cl := cl) (Pt := Pt) (q := qStr) (u := .str odd) (fun E => tCall (spX K C CN rLi rLiX) [] E (tCons (tVar 1) (tCons (tVar 5) (tCons (tVar 7) tNil)))) hq (fun H Q q => ⟨_, s5, q⟩) J0 .nil fun v1 H1 k1 j1 wk1 => ?_
  refine work_step (X := XX) (dl := dl) (cl := cl) (Pt := Pt) (q := qStr) (u := .str odd) (fun E => tCall (spX K C CN rLi rLiX) [] E (tCons (tVar 1) (tCons (tVar 7) (tCons (tVar 5) tNil)))) hq (fun H Q q => ⟨_, s5, q⟩) j1 wk1 fun v2 H2 k2 j2 wk2 => ?_
  refine work_step (X := XX) (dl := dl) (cl := cl) (Pt := Pt) (q := qStr) (u := .str odd) (fun E => tCallK (spX K C CN rLi rLiX) (fun vs zs => if vs = [] then zs.reverse else []) E tNil (tCons (tVar 6) (tCons (tVar 5) (tCons (tVar 1) tNil)))) hq (fun H Q q => ⟨_, s5, q⟩) j2 wk2 fun v3 H3 k3 j3 wk3 => ?_
  refine work_step (X := XX) (dl := dl) (cl := cl) (Pt := Pt) (q := qStr) (u := .non) (fun E => tCall (spX K C CN rLi rLiX) [] E (tCons (tVar 1) (tCons (tVar 7) (tCons (tVar 7) tNil)))) hq (fun H Q q => q) j3 wk3 fun v4 H4 k4 j4 wk4 => ?_
  refine work_step (X := XX) (dl := dl) (cl := cl) (Pt := Pt) (q := qStr) (u := .str odd) (fun E => tCall (spX K C CN rUo rNumX) [] E (tCons (tVar 1) (tCons (tVar 5) tNil))) hq (fun H Q q => ⟨_, s5, q⟩) j4 wk4 fun v5 H5 k5 j5 wk5 => ?_
  refine work_step (X := XX) (dl := dl) (cl := cl) (Pt := Pt) (q := qStr) (u := .str odd) (fun E => tCall (spX K C CN rHo rNumX) [] E (tCons (tVar 1) (tCons (tVar 5) tNil))) hq (fun H Q q => ⟨_, s5, q⟩) j5 wk5 fun v6 H6 k6 j6 wk6 => ?_
  refine work_step (X := XX) (dl := dl) (cl := cl) (Pt := Pt) (q := qStr) (u := .str first) (fun E => tCall (spX K C CN rCo rCoX) [] E (tCons (tVar 1) (tCons (tVar 9) tNil))) hq (fun H Q q => ⟨_, s10, q⟩) j6 wk6 fun v7 H7 k7 j7 wk7 => ?_
  refine work_step (X := XX) (dl := dl) (cl := cl) (Pt := Pt) (q := qStr) (u := .str strange) (fun E => tCall (spX K C CN rNo rHndX) [] E (tCons (tVar 1) (tCons (tVar 8) tNil))) hq (fun H Q q => ⟨_, s8, q⟩) j7 wk7 fun v8 H8 k8 j8 wk8 => ?_
  refine work_step (X := XX) (dl := dl) (cl := cl) (Pt := Pt) (q := qStr) (u := .str strange) (fun E => tCall (spX K C CN rKn rHndX) [] E (tCons (tVar 1) (tCons (tVar 8) tNil))) hq (fun H Q q => ⟨_, s8, q⟩) j8 wk8 fun v9 H9 k9 j9 wk9 => ?_
  refine work_step (X := XX) (dl := dl) (cl := cl) (Pt := Pt) (q := qStr) (u := .str strange) (fun E => tCall (spX K C CN rRn rHndX) [] E (tCons (tVar 1) (tCons (tVar 8) tNil))) hq (fun H Q q => ⟨_, s8, q⟩) j9 wk9 fun v10 H10 k10 j10 wk10 => ?_
  show _ ∧ ∀ p, _
  refine ⟨by show 10 ≤ sizeLine; decide, fun Lw hLw => ?_⟩
  dsimp only
  have wkL : WksAt XX H10 [⟨_, _, _, tVar 5, .str odd, (fun E => tCall (spX K C CN rLi rLiX) [] E (tCons (tVar 1) (tCons (tVar 5) (tCons (tVar 7) tNil))))⟩, ⟨_, _, _, tVar 5, .str odd, (fun E => tCall (spX K C CN rLi rLiX) [] E (tCons (tVar 1) (tCons (tVar 7) (tCons (tVar 5) tNil))))⟩, ⟨_, _, _, tVar 5, .str odd, (fun E => tCallK (spX K C CN rLi rLiX) (fun vs zs => if vs = [] then zs.reverse else []) E tNil (tCons (tVar 6) (tCons (tVar 5) (tCons (tVar 1) tNil))))⟩, ⟨_, _, _, tC .non, .non, (fun E => tCall (spX K C CN rLi rLiX) [] E (tCons (tVar 1) (tCons (tVar 7) (tCons (tVar 7) tNil))))⟩, ⟨_, _, _, tVar 5, .str odd, (fun E => tCall (spX K C CN rUo rNumX) [] E (tCons (tVar 1) (tCons (tVar 5) tNil)))⟩, ⟨_, _, _, tVar 5, .str odd, (fun E => tCall (spX K C CN rHo rNumX) [] E (tCons (tVar 1) (tCons (tVar 5) tNil)))⟩, ⟨_, _, _, tVar 10, .str first, (fun E => tCall (spX K C CN rCo rCoX) [] E (tCons (tVar 1) (tCons (tVar 9) tNil)))⟩, ⟨_, _, _, tVar 8, .str strange, (fun E => tCall (spX K C CN rNo rHndX) [] E (tCons (tVar 1) (tCons (tVar 8) tNil)))⟩, ⟨_, _, _, tVar 8, .str strange, (fun E => tCall (spX K C CN rKn rHndX) [] E (tCons (tVar 1) (tCons (tVar 8) tNil)))⟩, ⟨_, _, _, tVar 8, .str strange, (fun E => tCall (spX K C CN rRn rHndX) [] E (tCons (tVar 1) (tCons (tVar 8) tNil)))⟩] [v1, v2, v3, v4, v5, v6, v7, v8, v9, v10] := wk10
  have kk := ((((((((k1.trans k2).trans k3).trans k4).trans k5).trans k6).trans k7).trans k8).trans k9).trans k10
  have s2 : Same H10 (upd H10 Lw (.lst [v1, v2, v3, v4, v5, v6, v7, v8, v9, v10])) := smNew hLw
  have G2 : Good (tabC K H dl cl Pt qStr j) [] (upd H10 Lw (.lst [v1, v2, v3, v4, v5, v6, v7, v8, v9, v10])) (σ'.set 11 (some (.ref Lw))) (Γf.set 11 none) := ((G.go kk j10).same s2).unset _
  have ls : (σ'.set 11 (some (V.ref Lw))).length = 16 := G2.len
  have ls' : σ'.length = 16 := G.len
  refine ret_step ?_
  refine works_none (X := XX) (K := K) (CN := CN) (i := 11) (a := 14) (b := 15) (k := 4) (te := tVar 15) (dl := dl) (cl := cl) (Pt := Pt) (q := qStr) (Lw := Lw) (by decide) (by rw [ls]; decide) (by rw [ls]; decide) (List.getElem?_set_self (by rw [ls']; decide)) upd_same (j10.al.off hLw) G2.j (wkL.go j10 (KS.of s2)) (by show 10 ≤ 1000; decide) ?_ ?_ ?_ ?_
  · refine List.forall_mem_cons.mpr ⟨fitOf ⟨lamS_by (sc := defScope sStr) (by decide +kernel), fun _ _ _ _ _ => rfl, fun A outer s H E f c hr4 => pe_call (E := E) Lu hr4 rfl mLu kLu bLu .nil (passes_call (takes_of rfl rfl rfl rfl) fun _ _ _ _ h => h) (pa_cons (pv 1) (pa_cons (pv 5) (pa_cons (pv 7) pa_nil)))⟩, ?_⟩
    refine List.forall_mem_cons.mpr ⟨fitOf ⟨lamS_by (sc := defScope sStr) (by decide +kernel), fun _ _ _ _ _ => rfl, fun A outer s H E f c hr4 => pe_call (E := E) Lu hr4 rfl mLu kLu bLu .nil (passes_call (takes_of rfl rfl rfl rfl) fun _ _ _ _ h => h) (pa_cons (pv 1) (pa_cons (pv 7) (pa_cons (pv 5) pa_nil)))⟩, ?_⟩
    refine List.forall_mem_cons.mpr ⟨fitOf ⟨lamS_by (sc := defScope sStr) (by decide +kernel), fun _ _ _ _ _ => rfl, fun A outer s H E f c hr4 => peCallK0 (E := E) Lu hr4 rfl mLu kLu kbLu (passes_call (takes_of rfl rfl rfl rfl) fun _ _ _ _ h => h) (pk_cons (pv 6) (pk_cons (pv 5) (pk_cons (pv 1) pk_nil)))⟩, ?_⟩
    refine List.forall_mem_cons.mpr ⟨fitOf ⟨lamS_by (sc := defScope sStr) (by decide +kernel), fun _ _ _ _ _ => rfl, fun A outer s H E f c hr4 => pe_call (E := E) Lu hr4 rfl mLu kLu bLu .nil (passes_call (takes_of rfl rfl rfl rfl) fun _ _ _ _ h => h) (pa_cons (pv 1) (pa_cons (pv 7) (pa_cons (pv 7) pa_nil)))⟩, ?_⟩
    refine List.forall_mem_cons.mpr ⟨fitOf ⟨lamS_by (sc := defScope sStr) (by decide +kernel), fun _ _ _ _ _ => rfl, fun A outer s H E f c hr4 => pe_call (E := E) Uo hr4 rfl mUo kUo bUo .nil (passes_call (takes_of rfl rfl rfl rfl) fun _ _ _ _ h => h) (pa_cons (pv 1) (pa_cons (pv 5) pa_nil))⟩, ?_⟩
    refine List.forall_mem_cons.mpr ⟨fitOf ⟨lamS_by (sc := defScope sStr) (by decide +kernel), fun _ _ _ _ _ => rfl, fun A outer s H E f c hr4 => pe_call (E := E) Ho hr4 rfl mHo kHo bHo .nil (passes_call (takes_of rfl rfl rfl rfl) fun _ _ _ _ h => h) (pa_cons (pv 1) (pa_cons (pv 5) pa_nil))⟩, ?_⟩
    refine List.forall_mem_cons.mpr ⟨fitOf ⟨lamS_by (sc := defScope sStr) (by decide +kernel), fun _ _ _ _ _ => rfl, fun A outer s H E f c hr4 => pe_call (E := E) Co hr4 rfl mCo kCo bCo .nil (passes_call (takes_of rfl rfl rfl rfl) fun _ _ _ _ h => h) (pa_cons (pv 1) (pa_cons (pv 9) pa_nil))⟩, ?_⟩
    refine List.forall_mem_cons.mpr ⟨fitOf ⟨lamS_by (sc := defScope sStr) (by decide +kernel), fun _ _ _ _ _ => rfl, fun A outer s H E f c hr4 => pe_call (E := E) No hr4 rfl mNo kNo bNo .nil (passes_call (takes_of rfl rfl rfl rfl) fun _ _ _ _ h => h) (pa_cons (pv 1) (pa_cons (pv 8) pa_nil))⟩, ?_⟩
    refine List.forall_mem_cons.mpr ⟨fitOf ⟨lamS_by (sc := defScope sStr) (by decide +kernel), fun _ _ _ _ _ => rfl, fun A outer s H E f c hr4 => pe_call (E := E) Kn hr4 rfl mKn kKn bKn .nil (passes_call (takes_of rfl rfl rfl rfl) fun _ _ _ _ h => h) (pa_cons (pv 1) (pa_cons (pv 8) pa_nil))⟩, ?_⟩
    refine List.forall_mem_cons.mpr ⟨fitOf ⟨lamS_by (sc := defScope sStr) (by decide +kernel), fun _ _ _ _ _ => rfl, fun A outer s H E f c hr4 => pe_call (E := E) Rn hr4 rfl mRn kRn bRn .nil (passes_call (takes_of rfl rfl rfl rfl) fun _ _ _ _ h => h) (pa_cons (pv 1) (pa_cons (pv 8) pa_nil))⟩, ?_⟩
    exact fun _ h => nomatch h
  · have lotK : ∀ y ∈ lpre, ∃ i, i < w.ns.length ∧ nameAt w.ns i = y := fun y hy => by
      have z := q2 y hy
      by_cases c : y ∈ nms w
      · exact nms_mem.mp c
      · rw [decide_eq_false c] at z
        cases z
    have eni : nameAt w.ns ni = note := eni
    have lu_kw : ∀ {H3 : Hp} {σ3 : St} {E : XK} {Q : VK}, Good (tabC K H dl cl Pt qStr j) [] H3 σ3 (Γf.set 11 none) → ((∃ z : Str, V.str odd = .str z ∧ ∀ H1, KS (tS dl cl Pt) H3 H1 → tJ dl cl Pt qStr H1 → OddTold CN z H1 E) ∨ (V.str odd = .non ∧ ∀ v H1, KS (tS dl cl Pt) H3 H1 → tJ dl cl Pt qStr H1 → Q v H1)) →
        tCallK (spX K C CN rLi rLiX) (fun vs zs => if vs = [] then zs.reverse else []) E tNil (tCons (tVar 6) (tCons (tVar 5) (tCons (tVar 1) tNil))) σ3 H3 Q := fun {H3 σ3 E Q} G3 h => by
      obtain ⟨v, hv, st3⟩ := G3.at_ 1 (.p (isPk K C w)) rfl
      have st3 : St' (DS (tabC K H dl cl Pt qStr j) []) H3 fun H' => isPk K C w H' v := st3
      obtain rfl : v = .ref w.x := st3.now.1
      refine ⟨_, strAtG (i := 6) (z := other) G3 rfl, _, strAtG (i := 5) (z := odd) G3 rfl, _, hv, ?_⟩
      show spX K C CN rLi rLiX (if ([] : List V) = [] then [V.str other, V.str odd, V.ref w.x].reverse else []) H3 Q E
      rw [if_pos rfl]
      exact ⟨DS (tabC K H dl cl Pt qStr j) [], w, [.str odd, .str other], [.str odd, .str other], rfl, G3.al, F, fun H2 k2 => (st3 H2 k2).2, .cons (.str _) (.cons (.str _) .nil), .inr ⟨odd, ⟨oddNt, .inl ⟨other, rfl⟩⟩, oddOf h H3 KS.refl G3.j⟩⟩
    refine List.forall_mem_cons.mpr ⟨brOf fun H3 k3 j3 E Q h => call_odd (R := rLi) (R' := rLiX) (i := 1) rfl rfl F (va_cons (v_vd (x := .str odd) rfl) (va_cons (v_vd (x := .str note) rfl) va_nil)) ⟨oddNt, .inl ⟨note, rfl⟩⟩ (G2.go k3 j3) (oddOf h) Q, ?_⟩
    refine List.forall_mem_cons.mpr ⟨brOf fun H3 k3 j3 E Q h => call_odd (R := rLi) (R' := rLiX) (i := 1) rfl rfl F (va_cons (v_vd (x := .str note) rfl) (va_cons (v_vd (x := .str odd) rfl) va_nil)) ⟨oddNt, .inr ⟨ni, lni, by rw [eni]⟩⟩ (G2.go k3 j3) (oddOf h) Q, ?_⟩
    refine List.forall_mem_cons.mpr ⟨brOf fun H3 k3 j3 E Q h => lu_kw (G2.go k3 j3) h, ?_⟩
    refine List.forall_mem_cons.mpr ⟨brOf fun H3 k3 j3 E Q h => (v_callX (R := rLi) (R' := rLiX) (i := 1) rfl rfl F (va_cons (v_vd (x := .str note) rfl) (va_cons (v_vd (x := .str note) rfl) va_nil)) ⟨ni, ni, lni, lni, by rw [eni], rfl⟩) [] H3 _ (G2.go k3 j3) Q fun v H' k j _ => noneOf h v H' k j, ?_⟩
    refine List.forall_mem_cons.mpr ⟨brOf fun H3 k3 j3 E Q h => call_odd (R := rUo) (R' := rNumX) (i := 1) rfl rfl F (va_cons (v_vd (x := .str odd) rfl) va_nil) ⟨rfl, oddNt⟩ (G2.go k3 j3) (oddOf h) Q, ?_⟩
    refine List.forall_mem_cons.mpr ⟨brOf fun H3 k3 j3 E Q h => call_odd (R := rHo) (R' := rNumX) (i := 1) rfl rfl F (va_cons (v_vd (x := .str odd) rfl) va_nil) ⟨rfl, oddNt⟩ (G2.go k3 j3) (oddOf h) Q, ?_⟩
    refine List.forall_mem_cons.mpr ⟨brOf fun H3 k3 j3 E Q h => call_odd (R := rCo) (R' := rCoX) (i := 1) rfl rfl F (va_cons (v_vd (x := strT lot) rfl) va_nil) ⟨lpre, lpost, by rw [← elot]; omega, lotK, firNt, by rw [← elot]; rfl⟩ (G2.go k3 j3) (oddOf h) Q, ?_⟩
    refine List.forall_mem_cons.mpr ⟨brOf fun H3 k3 j3 E Q h => call_odd (R := rNo) (R' := rHndX) (i := 1) rfl rfl F (va_cons (v_vd (x := .str strange) rfl) va_nil) ⟨rfl, strN⟩ (G2.go k3 j3) (oddOf h) Q, ?_⟩
    refine List.forall_mem_cons.mpr ⟨brOf fun H3 k3 j3 E Q h => call_odd (R := rKn) (R' := rHndX) (i := 1) rfl rfl F (va_cons (v_vd (x := .str strange) rfl) va_nil) ⟨rfl, strN⟩ (G2.go k3 j3) (oddOf h) Q, ?_⟩
    refine List.forall_mem_cons.mpr ⟨brOf fun H3 k3 j3 E Q h => call_odd (R := rRn) (R' := rHndX) (i := 1) rfl rfl F (va_cons (v_vd (x := .str strange) rfl) va_nil) ⟨rfl, strN⟩ (G2.go k3 j3) (oddOf h) Q, ?_⟩
    exact fun _ h => nomatch h
  · refine List.forall_mem_cons.mpr ⟨.inr ⟨_, rfl⟩, List.forall_mem_cons.mpr ⟨.inr ⟨_, rfl⟩, List.forall_mem_cons.mpr ⟨.inr ⟨_, rfl⟩, List.forall_mem_cons.mpr ⟨.inl rfl, List.forall_mem_cons.mpr ⟨.inr ⟨_, rfl⟩, List.forall_mem_cons.mpr ⟨.inr ⟨_, rfl⟩, List.forall_mem_cons.mpr ⟨.inr ⟨_, rfl⟩, List.forall_mem_cons.mpr ⟨.inr ⟨_, rfl⟩, List.forall_mem_cons.mpr ⟨.inr ⟨_, rfl⟩, List.forall_mem_cons.mpr ⟨.inr ⟨_, rfl⟩, fun _ h => nomatch h⟩⟩⟩⟩⟩⟩⟩⟩⟩⟩
  · intro D H' k j' e
    refine ⟨Nat.zero_le _, fun p hp => ⟨.list [], .list [], .lst (SqL.of (smNew hp _ _ e)) .nil, .lst (SqL.of upd_same) .nil, rfl, rfl, ?_⟩⟩
    exact q _ (j'.same (smNew hp)) ((G2.ks.trans k).trans (KS.of (smNew hp)))
end
end L2.K2


namespace L2.K2
open PySem L2 L2.Bv L2.Pc L2.Ts L2.Da PyProof.Rows Bov LamX
/-! ### from what is drawn and made to data -/
section
variable {K : PySem.W.Frag} {C : Addr} {dl cl Pt : Addr} {q : Str} {H : Hp}
theorem ktRest (j : tJ dl cl Pt q H) : KT dl cl H (Da.rest (tS dl cl Pt) H) := fun x o n1 n2 n3 e => by
  obtain ⟨ps, ep⟩ := j.tbl
  rw [rest_no]
  · exact e
  · rintro (z | z | z)
    · exact n1 z
    · exact n2 z
    · subst z
      rw [ep] at e
      cases e
      exact n3 _ rfl
theorem ktKs (j : tJ dl cl Pt q H) {H' : Hp} (k : KS (tS dl cl Pt) H H') : KT dl cl H H' := (ktRest j).trans (KT.same (rest_same k))
theorem offL (j : tJ dl cl Pt q H) {a : Addr} {xs : List V} (n : ¬ dc dl cl a) (e : H a = some (.lst xs)) : ¬ tS dl cl Pt a := by
  obtain ⟨ps, ep⟩ := j.tbl
  rintro (z | z | z)
  · exact n (.inl z)
  · exact n (.inr z)
  · subst z
    rw [ep] at e
    cases e
theorem dqAll_of {S : Addr → Prop} : ∀ {vs : List V} {ds : List PyData}, vs.length = ds.length → (∀ (i : Nat) (v : V) (d : PyData), vs[i]? = some v → ds[i]? = some d → Dq K S H v d) → DqAll K S H vs ds
  | [], [], _, _ => .nil
  | [], _ :: _, l, _ => by cases l
  | _ :: _, [], l, _ => by cases l
  | v :: vs, d :: ds, l, h => .cons (h 0 v d rfl rfl) (dqAll_of (Nat.succ.inj l) fun i v d e1 e2 => h (i + 1) v d e1 e2)
theorem pt_data {p h n r pp : Addr} {hs : List Str} {xs : List V} {ns : List Nt} {rs ps : List Str} (j : tJ dl cl Pt q H) (a : PtAt (dc dl cl) H p h n r pp hs xs ns rs ps) :
    Dq K (tS dl cl Pt) H (.ref h) (strL hs) ∧ Dq K (tS dl cl Pt) H (.ref n) (notesD ns) ∧ Dq K (tS dl cl Pt) H (.ref r) (strL rs) ∧ Dq K (tS dl cl Pt) H (.ref pp) (strT ps) := by
  obtain ⟨o1, o2, o3, o4, o5⟩ := a.off
  have lst : ∀ {x : Addr} {ys : List V}, ¬ dc dl cl x → H x = some (.lst ys) → St' (tS dl cl Pt) H fun H' => Rd H' x (.lst ys) := fun n e H' k => .inl (k _ _ (offL j n e) e)
  have tup : ∀ {x : Addr} {ys : List V}, H x = some (.tup ys) → St' (tS dl cl Pt) H fun H' => SqT K H' x ys := fun e H' k => SqT.of (k _ _ (j.off e (fun _ z => nomatch z) fun _ z => nomatch z) e)
  refine ⟨.lst (lst o2 a.eh) (dqStrs hs), .lst (lst o3 a.en) (dqAll_of (by rw [List.length_map, List.length_range]; exact a.nt.1) fun i v d e1 e2 => ?_), .lst (lst o4 a.er) (dqStrs rs), .tup (tup a.epp) (dqStrs ps)⟩
  obtain ⟨x, y, rfl, _, _, h1, h2⟩ := a.nt.2 i v e1
  rw [List.getElem?_map] at e2
  cases z : (List.range ns.length)[i]? with
  | none => rw [z] at e2; cases e2
  | some k =>
    rw [z] at e2
    cases e2
    obtain rfl : i = k := by
      obtain ⟨lt, e⟩ := List.getElem?_eq_some_iff.mp z
      rw [List.getElem_range] at e
      exact e
    exact .tup (tup h1) (.cons (.str _) (.cons (.str _) (.cons (.tup (tup h2) (dqStrs _)) .nil)))
theorem pk_hold {x : Addr} {hs : List Str} {xs : List V} {ns : List Nt} {rs ps : List Str} (j : tJ dl cl Pt q H) (ok : PkOk hs ns rs ps) (fa : ∀ H', KT dl cl H H' → FullAt K C H' x hs xs ns rs ps) :
    ∃ w : PkW, w.x = x ∧ w.hs = hs ∧ w.ns = ns ∧ w.rs = rs ∧ w.ps = ps ∧ PkFix w ∧ St' (tS dl cl Pt) H (PkHolds K C w) := by
  obtain ⟨w, e1, e2, _, e4, e5, e6, F, h⟩ := pk_of (fa _ (ktRest j)) ok
  exact ⟨w, e1, e2, e4, e5, e6, F, stRest h fun _ _ h s => h.same s⟩
theorem belAll_of : ∀ {kvs : List (Key × V)} {m : List (Str × List Str)}, kvs.length = m.length → (∀ (i : Nat) (k : Key) (v : V) (z : Str) (zs : List Str), kvs[i]? = some (k, v) → m[i]? = some (z, zs) → k = .inr z ∧ ∃ l, v = .ref l ∧ Rd H l (.lst (zs.map V.str))) → BelAll H kvs m
  | [], [], _, _ => .nil
  | [], _ :: _, l, _ => by cases l
  | _ :: _, [], l, _ => by cases l
  | (k, v) :: kvs, (z, zs) :: m, l, h => by
    obtain ⟨rfl, l', rfl, hl⟩ := h 0 k v z zs rfl rfl
    exact .cons hl (belAll_of (Nat.succ.inj l) fun i k v z zs e1 e2 => h (i + 1) k v z zs e1 e2)
theorem valV_at : ∀ {kvs : List (Key × V)} {i : Nat} {k : Key} {v : V}, (kvs.map (·.1)).Nodup → kvs[i]? = some (k, v) → valV kvs k = some v
  | [], _, _, _, _, e => by cases e
  | (k', v') :: kvs, 0, k, v, _, e => by
    cases e
    unfold valV
    rw [List.find?_cons, decide_eq_true rfl]
    rfl
  | (k', v') :: kvs, i + 1, k, v, nd, e => by
    have nd : (k' :: kvs.map (·.1)).Nodup := nd
    obtain ⟨n1, n2⟩ := List.nodup_cons.mp nd
    have e : kvs[i]? = some (k, v) := e
    have ne : k' ≠ k := fun z => n1 (by rw [z]; exact List.mem_map.mpr ⟨_, List.mem_of_getElem? e, rfl⟩)
    have r := valV_at n2 e
    unfold valV at r ⊢
    rw [List.find?_cons, decide_eq_false ne]
    exact r
theorem getB_at : ∀ {m : List (Str × List Str)} {i : Nat} {z : Str} {zs : List Str}, (m.map (·.1)).Nodup → m[i]? = some (z, zs) → getB m z = some zs
  | [], _, _, _, _, e => by cases e
  | (k', v') :: m, 0, k, v, _, e => by
    cases e
    unfold getB
    rw [List.find?_cons, decide_eq_true rfl]
    rfl
  | (k', v') :: m, i + 1, k, v, nd, e => by
    have nd : (k' :: m.map (·.1)).Nodup := nd
    obtain ⟨n1, n2⟩ := List.nodup_cons.mp nd
    have e : m[i]? = some (k, v) := e
    have ne : k' ≠ k := fun z => n1 (by rw [z]; exact List.mem_map.mpr ⟨_, List.mem_of_getElem? e, rfl⟩)
    have r := getB_at n2 e
    unfold getB at r ⊢
    rw [List.find?_cons, decide_eq_false ne]
    exact r
theorem bel_made {H0 : Hp} {b : Addr} {ns : List Nt} {kvs : List (Key × V)} (ok : NtOk ns) (j : tJ dl cl Pt q H) (al : Al (tS dl cl Pt) H0) (e : H b = some (.dK kvs)) (fo : FoundOk ns H0 H kvs ns.length) (ky : KeyOf ns kvs ns.length) :
    ∃ m, BelM ns m ∧ St' (tS dl cl Pt) H fun H' => isBel m H' (.ref b) := by
  have ch : ∃ f : Nat → Addr × List Str, ∀ k, k < ns.length → valV kvs (.inr (nameAt ns k)) = some (.ref (f k).1) ∧ H (f k).1 = some (.lst ((f k).2.map V.str)) ∧ H0 (f k).1 = none ∧ BelowOk ns k (f k).2 := by
    suffices z : ∀ k, ∃ p : Addr × List Str, k < ns.length → valV kvs (.inr (nameAt ns k)) = some (.ref p.1) ∧ H p.1 = some (.lst (p.2.map V.str)) ∧ H0 p.1 = none ∧ BelowOk ns k p.2 from ⟨fun k => Classical.choose (z k), fun k => Classical.choose_spec (z k)⟩
    intro k
    by_cases lt : k < ns.length
    · obtain ⟨b, bs, h1, h2, h3, h4⟩ := fo k lt
      exact ⟨(b, bs), fun _ => ⟨h1, h2, h3, h4⟩⟩
    · exact ⟨(0, []), fun h => absurd h lt⟩
  obtain ⟨f, hf⟩ := ch
  have keys : ((List.range ns.length).map fun k => (nameAt ns k, (f k).2)).map (·.1) = ns.map (·.1) := by
    rw [List.map_map, nameMap]
    rfl
  have kl : kvs.length = ns.length := by
    have z := congrArg List.length ky
    rw [List.length_map, List.length_map, List.length_range] at z
    exact z
  have nd : (kvs.map (·.1)).Nodup := by
    rw [ky]
    have z := ok.nd
    rw [nameMap] at z
    refine (List.pairwise_map.mpr ((List.pairwise_map.mp z).imp fun {a b} ne e => ne (Sum.inr.inj e)))
  refine ⟨(List.range ns.length).map fun k => (nameAt ns k, (f k).2), ⟨keys, fun k lk => ⟨(f k).2, getB_at (i := k) (by rw [keys]; exact ok.nd) (by rw [List.getElem?_map, List.getElem?_range lk]; rfl), (hf k lk).2.2.2⟩⟩, fun H' k' => ⟨b, kvs, rfl, k' _ _ (j.off e (fun _ z => nomatch z) fun _ z => nomatch z) e, belAll_of (by rw [List.length_map, List.length_range]; exact kl) fun i k v z zs e1 e2 => ?_⟩⟩
  have li : i < ns.length := by
    have z := (List.getElem?_eq_some_iff.mp e1).1
    omega
  rw [List.getElem?_map, List.getElem?_range li] at e2
  cases e2
  have ek : k = .inr (nameAt ns i) := by
    have z : (kvs.map (·.1))[i]? = some k := by rw [List.getElem?_map, e1]; rfl
    rw [ky, List.getElem?_map, List.getElem?_range li] at z
    exact (Option.some.inj z).symm
  subst ek
  obtain ⟨h1, h2, h3, h4⟩ := hf i li
  rw [valV_at nd e1] at h1
  cases h1
  exact ⟨rfl, _, rfl, .inl (k' _ _ (fun z => al _ z h3) h2)⟩
end
/-! ### what the law asks of lots -/
theorem nodup_single {l : List Str} {a : Str} (nd : l.Nodup) (h : ∀ x, x ∈ l ↔ x = a) : l = [a] := by
  cases l with
  | nil => exact absurd ((h a).mpr rfl) (by simp)
  | cons b r =>
    obtain rfl : b = a := (h b).mp List.mem_cons_self
    cases r with
    | nil => rfl
    | cons c r =>
      obtain ⟨n1, _⟩ := List.nodup_cons.mp nd
      have e := (h c).mp (List.mem_cons_of_mem _ List.mem_cons_self)
      exact absurd (by rw [e]; exact List.mem_cons_self) n1
section
variable {w : PkW}
theorem lotM_congr (F : PkFix w) {m m' : Nat} (h : ∀ i, i < w.ns.length → m.testBit i = m'.testBit i) : lotM w m = lotM w m' := List.filter_congr fun z hz => h _ (numz F hz).1
theorem zs_nd (F : PkFix w) : w.zs.Nodup := F.pm.nodup_iff.mpr F.ok.nt.nd
theorem lotM_nd (F : PkFix w) {m : Nat} : (lotM w m).Nodup := (zs_nd F).filter _
theorem lotM_first (F : PkFix w) : lotM w (w.ms.getD 0 0) = [nameAt w.ns 0] := by
  have n2 := F.ok.two
  refine nodup_single (lotM_nd F) fun x => ?_
  constructor
  · intro h
    obtain ⟨i, li, rfl⟩ := lotM_sub F h
    have b := (lotM_mem F li).mp h
    rw [und_bit F.mo (by omega), und_t] at b
    have := b.le
    obtain rfl : i = 0 := by omega
    rfl
  · rintro rfl
    refine (lotM_mem F (by omega)).mpr ?_
    rw [und_bit F.mo (by omega), und_t]
    exact Und.self _
theorem lotM_below (F : PkFix w) {j : Nat} (lj : j < w.ns.length) {bs : List Str} (ok : BelowOk w.ns j bs) : lotM w (w.ms.getD j 0) = srt bs := by
  refine srt_eq ((List.perm_ext_iff_of_nodup (lotM_nd F) ok.nd).mpr fun x => ?_) (sorted_filter _ F.so)
  constructor
  · intro h
    obtain ⟨i, li, rfl⟩ := lotM_sub F h
    have b := (lotM_mem F li).mp h
    rw [und_bit F.mo lj, und_t] at b
    exact (ok.iff _).mpr ⟨i, b.le, rfl, b⟩
  · intro h
    obtain ⟨i, le, rfl, u⟩ := (ok.iff _).mp h
    refine (lotM_mem F (by omega)).mpr ?_
    rw [und_bit F.mo lj, und_t]
    exact u
theorem bit_join (F : PkFix w) {lot : List Str} (hl : ∀ z ∈ lot, z ∈ nms w) {i : Nat} : (joinM w.ms (lot.map (numOf w.ns))).testBit i = true ↔ ∃ j, j < w.ns.length ∧ nameAt w.ns j ∈ lot ∧ Und w.ns i j := by
  rw [joinM_iff]
  constructor
  · rintro ⟨j', hj', b⟩
    obtain ⟨z, hz, rfl⟩ := List.mem_map.mp hj'
    obtain ⟨j, lj, rfl⟩ := nms_mem.mp (hl z hz)
    rw [numOf_name F.ok.nt lj, und_bit F.mo lj, und_t] at b
    exact ⟨j, lj, hz, b⟩
  · rintro ⟨j, lj, hz, u⟩
    refine ⟨_, List.mem_map.mpr ⟨_, hz, rfl⟩, ?_⟩
    rw [numOf_name F.ok.nt lj, und_bit F.mo lj, und_t]
    exact u
theorem ps_nms (F : PkFix w) : ∀ z ∈ w.ps, z ∈ nms w := fun z hz => nms_mem.mpr (F.ok.pp.kn z hz)
theorem lotM_paper (F : PkFix w) : lotM w (joinM w.ms (w.ps.map (numOf w.ns))) = lotM w w.wm := lotM_congr F fun i li => by
  rw [Bool.eq_iff_iff, bit_join F (ps_nms F), F.wb]
/-- the key notes, by hand -/
theorem lotM_keys (F : PkFix w) {lot : List Str} (h : ∀ x, x ∈ lot ↔ ∃ z ∈ w.hs, ∃ k init, keysI w z = init ++ [k] ∧ nameAt w.ns k = x) : (∀ z ∈ lot, z ∈ nms w) ∧ lotM w (joinM w.ms (lot.map (numOf w.ns))) = lotM w w.wm := by
  have mk : ∀ {z : Str} {k : Nat} {init : List Nat}, keysI w z = init ++ [k] → k < w.ns.length ∧ handAt w.ns k = z ∧ w.wm.testBit k = true := fun {z k init} e => by
    have m : k ∈ keysI w z := by
      rw [e]
      exact List.mem_append_right _ List.mem_cons_self
    obtain ⟨m1, m2⟩ := List.mem_filter.mp m
    obtain ⟨a, b⟩ := row_mem.mp m1
    exact ⟨a, b, m2⟩
  have hl : ∀ z ∈ lot, z ∈ nms w := fun x hx => by
    obtain ⟨z, hz, k, init, e, rfl⟩ := (h x).mp hx
    exact nms_mem.mpr ⟨k, (mk e).1, rfl⟩
  refine ⟨hl, lotM_congr F fun i li => ?_⟩
  rw [Bool.eq_iff_iff, bit_join F hl]
  constructor
  · rintro ⟨j, lj, hj, u⟩
    obtain ⟨z, hz, k, init, e, en⟩ := (h _).mp hj
    obtain rfl := F.ok.nt.inj (mk e).1 lj en
    exact whole_down F u (mk e).2.2
  · intro b
    obtain ⟨k, init, e, _, _, lk, hk, bk⟩ := keyAt F (F.ok.hin i li)
    refine ⟨k, lk, (h _).mpr ⟨_, F.ok.hin i li, k, init, e, rfl⟩, ?_⟩
    have mi : i ∈ keysI w (handAt w.ns i) := List.mem_filter.mpr ⟨row_mem.mpr ⟨li, rfl⟩, b⟩
    have pw : (keysI w (handAt w.ns i)).Pairwise fun a b => Und w.ns a b := (row_chain (ns := w.ns) (h := handAt w.ns i)).filter _
    rw [e] at mi pw
    rcases List.mem_append.mp mi with m | m
    · exact (List.pairwise_append.mp pw).2.2 i m k List.mem_cons_self
    · rw [List.mem_singleton.mp m]
      exact Und.self _
end
end L2.K2


namespace L2.K2
open PySem L2 L2.Bv L2.Pc L2.Ts L2.Da PyProof.Rows Bov LamX
abbrev sRight : Stmt := top 59
abbrev nRight : List Str := ["heap", "parts", "hands", "notes", "ready", "paper", "pact", "below", "names", "whole", "name", "hand", "waits", "keys", "note"]
theorem scRt : FnScope nRight ["heap", "parts"] (defScope sRight) := ⟨rfl, rfl, rfl, by decide +kernel, rfl, by decide +kernel, by decide +kernel⟩
def spRight (Pt : Addr) : Sp := fun vs H Q _ => ∃ (dl cl p h n r pp : Addr) (hs : List Str) (xs : List V) (ns : List Nt) (rs ps : List Str) (j : tJ dl cl Pt qStr H), vs = [.ref dl, .ref p] ∧ PtAt (dc dl cl) H p h n r pp hs xs ns rs ps ∧ PkOk hs ns rs ps ∧
  ∀ H', tJ dl cl Pt qStr H' → KS (tS dl cl Pt) H H' → Q (.bl true) H'
section
variable {c : Cf} {Γ : Gm} {te : TE} {K : PySem.W.Frag} {C : Addr} {w : PkW} {i : Nat} {R : PkW → List PyData → PyData → Prop} {E : XK} {x y : PyData}
abbrev revK : List V → List V → List V := fun vs zs => if vs = [] then zs.reverse else []
/-- by keywords, the pact last -/
theorem v_kw1 (hK : K = c.K) (hi : Γ[i]? = some (some (.p (isPk K C w)))) (F : PkFix w) (h : Vd c Γ te y) (r : R w [y] x) : Vd c Γ (tCallK (spN K C R) revK E tNil (tCons te (tCons (tVar i) tNil))) x := fun O H σ G Q q => by
  subst hK
  refine h O H σ G _ fun v H1 k1 j1 d1 => ?_
  have G1 := G.go k1 j1
  obtain ⟨u, hu, st⟩ := G1.at_ i _ hi
  obtain rfl : u = .ref w.x := st.now.1
  refine ⟨_, hu, ?_⟩
  exact ⟨DS c O, w, [v], [y], x, rfl, G1.al, F, fun H2 k2 => (st H2 k2).2, .cons d1 .nil, r, fun v H' s dv => q v H' (k1.trans (KS.of s)) (G1.js' s) dv⟩
theorem v_kw0 (hK : K = c.K) (hi : Γ[i]? = some (some (.p (isPk K C w)))) (F : PkFix w) (r : R w [] x) : Vd c Γ (tCallK (spN K C R) revK E tNil (tCons (tVar i) tNil)) x := fun O H σ G Q q => by
  subst hK
  obtain ⟨u, hu, st⟩ := G.at_ i _ hi
  obtain rfl : u = .ref w.x := st.now.1
  refine ⟨_, hu, ?_⟩
  exact ⟨DS c O, w, [], [], x, rfl, G.al, F, fun H2 k2 => (st H2 k2).2, .nil, r, fun v H' s dv => q v H' (KS.of s) (G.js' s) dv⟩
theorem s_par {O : Own} {H : Hp} {σ : St} {D : Ends} {ta tb : TE} {i j : Nat} (G : Good c O H σ Γ) (ha : Vd c Γ ta x) (hb : Vd c Γ tb y) (k : ∀ σ' H', Good c O H' σ' ((Γ.set i (some (.d x))).set j (some (.d y))) → D.nx σ' H') : tPar i j (tCons ta (tCons tb tNil)) D σ H :=
  ha O H σ G _ fun v H1 k1 j1 d1 => hb O H1 σ (G.go k1 j1) _ fun u H2 k2 j2 d2 => ⟨v, u, rfl, k _ _ ((((G.go k1 j1).go k2 j2).set (e := .d x) True.intro (Dq.go d1 (k2.sub fun _ => dsM))).set (e := .d y) True.intro d2)⟩
end
theorem fx_nil : ∀ e ∈ ([] : List Ent), e.fix := fun _ h => nomatch h
theorem fx_cons {e : Ent} {es : List Ent} (h : e.fix) (k : ∀ e ∈ es, e.fix) : ∀ e' ∈ e :: es, e'.fix := fun e' m => by
  rcases List.mem_cons.mp m with rfl | m
  · exact h
  · exact k e' m
theorem Fit.mono {k k' b b' : Nat} {d : PyData} (h : Fit k b d) (hk : k ≤ k') (hb : b ≤ b') : Fit k' b' d := ⟨h.short, h.shows, h.plain, Nat.le_trans h.deep hk, Nat.le_trans h.small hb⟩
section
variable {P : Program} {w0 : World} {K : PySem.W.Frag} {mg : Str → Option Value} {base : Heap} {C Pt : Addr}
theorem ok_right {f fI : Addr} {fdR fdI : FuncData} (T : PcK K C) (F : Fun K "_law_right" "_law_right" sRight f fdR)
    (Mk0 : Mk K C fI) (mC : mg "Pact" = some (.ref C)) (I : FnOk P w0 K mg base CX0 5 fI fdI ["self", "hands", "notes", "ready", "paper"] (spInit K C)) (bI : Binds K fdI ["self", "hands", "notes", "ready", "paper"] [])
    (U : Dn P w0 K mg base 1 "_law_unders" ["notes"] (spUnders0 K))
    {gAl : Addr} {fdAl : FuncData} (Al : FnOk P w0 K mg base CX0 1 gAl fdAl ["below", "lot"] (spE K rAl)) (kAl : PySem.W.keepIn K (.ref gAl) = true) (bAl : Binds K fdAl ["below", "lot"] []) (mAl : mg "_law_all" = some (.ref gAl))
    {gHr : Addr} {fdHr : FuncData} (Hr : FnG P w0 K mg base CX0 5 gHr fdHr ["pact", "hands", "notes", "ready", "whole"] (spE K (rHr K C))) (kHr : PySem.W.keepIn K (.ref gHr) = true) (bHr : Binds K fdHr ["pact", "hands", "notes", "ready", "whole"] []) (mHr : mg "_law_hands_right" = some (.ref gHr))
    {gPrs : Addr} {fdPrs : FuncData} (Prs : FnG P w0 K mg base CX0 5 gPrs fdPrs ["heap", "pact", "names", "below"] (spED K (rPrs K C))) (kPrs : PySem.W.keepIn K (.ref gPrs) = true) (bPrs : Binds K fdPrs ["heap", "pact", "names", "below"] []) (mPrs : mg "_law_pairs_right" = some (.ref gPrs))
    {gLts : Addr} {fdLts : FuncData} (Lts : FnG P w0 K mg base CX0 5 gLts fdLts ["heap", "pact", "names", "below"] (spED K (rPrs K C))) (kLts : PySem.W.keepIn K (.ref gLts) = true) (bLts : Binds K fdLts ["heap", "pact", "names", "below"] []) (mLts : mg "_law_lots_right" = some (.ref gLts))
    {gSg : Addr} {fdSg : FuncData} (Sg : FnG P w0 K mg base CX0 7 gSg fdSg ["heap", "pact", "hands", "names"] (spStr K C Pt)) (kSg : PySem.W.keepIn K (.ref gSg) = true) (bSg : Binds K fdSg ["heap", "pact", "hands", "names"] []) (mSg : mg "_law_strangers_right" = some (.ref gSg))
    {gHo : Addr} {fdHo : FuncData} (Ho : FnOk P w0 K mg base CX0 4 gHo fdHo ["pact", "note"] (spN K C rHo)) (kHo : PySem.W.keepIn K (.ref gHo) = true) (bHo : Binds K fdHo ["pact", "note"] []) (mHo : mg "hand_of" = some (.ref gHo)) (kbHo : KBinds K fdHo ["pact", "note"] ["note", "pact"] (fun us ws => if us = [] then ws.reverse else []) (fun vs zs => if vs = [] then zs.reverse else []))
    {gUo : Addr} {fdUo : FuncData} (Uo : FnOk P w0 K mg base CX0 4 gUo fdUo ["pact", "note"] (spN K C rUo)) (kUo : PySem.W.keepIn K (.ref gUo) = true) (bUo : Binds K fdUo ["pact", "note"] []) (mUo : mg "under_of" = some (.ref gUo)) (kbUo : KBinds K fdUo ["pact", "note"] ["note", "pact"] (fun us ws => if us = [] then ws.reverse else []) (fun vs zs => if vs = [] then zs.reverse else []))
    {gCo : Addr} {fdCo : FuncData} (Co : FnOk P w0 K mg base CX0 4 gCo fdCo ["pact", "lot"] (spN K C rCo)) (kCo : PySem.W.keepIn K (.ref gCo) = true) (bCo : Binds K fdCo ["pact", "lot"] []) (mCo : mg "closure_of" = some (.ref gCo)) (kbCo : KBinds K fdCo ["pact", "lot"] ["lot", "pact"] (fun us ws => if us = [] then ws.reverse else []) (fun vs zs => if vs = [] then zs.reverse else []))
    {gWp : Addr} {fdWp : FuncData} (Wp : FnOk P w0 K mg base CX0 2 gWp fdWp ["pact"] (spN K C rWp)) (kWp : PySem.W.keepIn K (.ref gWp) = true) (bWp : Binds K fdWp ["pact"] []) (mWp : mg "whole_paper" = some (.ref gWp)) (kbWp : KBinds K fdWp ["pact"] ["pact"] (fun us ws => if us = [] then ws.reverse else []) (fun vs zs => if vs = [] then zs.reverse else []))
    {gKn : Addr} {fdKn : FuncData} (Kn : FnOk P w0 K mg base CX0 4 gKn fdKn ["pact", "hand"] (spN K C rKn)) (kKn : PySem.W.keepIn K (.ref gKn) = true) (bKn : Binds K fdKn ["pact", "hand"] []) (mKn : mg "key_note" = some (.ref gKn)) (kbKn : KBinds K fdKn ["pact", "hand"] ["hand", "pact"] (fun us ws => if us = [] then ws.reverse else []) (fun vs zs => if vs = [] then zs.reverse else []))
    {gNo : Addr} {fdNo : FuncData} (No : FnOk P w0 K mg base CX0 4 gNo fdNo ["pact", "hand"] (spN K C rNo)) (kNo : PySem.W.keepIn K (.ref gNo) = true) (bNo : Binds K fdNo ["pact", "hand"] []) (mNo : mg "notes_of" = some (.ref gNo)) (kbNo : KBinds K fdNo ["pact", "hand"] ["hand", "pact"] (fun us ws => if us = [] then ws.reverse else []) (fun vs zs => if vs = [] then zs.reverse else []))
    {gRn : Addr} {fdRn : FuncData} (Rn : FnOk P w0 K mg base CX0 4 gRn fdRn ["pact", "hand"] (spN K C rRn)) (kRn : PySem.W.keepIn K (.ref gRn) = true) (bRn : Binds K fdRn ["pact", "hand"] []) (mRn : mg "ready_note" = some (.ref gRn)) (kbRn : KBinds K fdRn ["pact", "hand"] ["hand", "pact"] (fun us ws => if us = [] then ws.reverse else []) (fun vs zs => if vs = [] then zs.reverse else []))
    (mt : mg "tuple" = none) (mS : mg "sorted" = none) (mre : mg "repr" = none) : FnG P w0 K mg base CX0 8 f fdR ["heap", "parts"] (spRight Pt) := by
  obtain ⟨u0, ud, U, kU, bU, mU⟩ := U.ex
  refine okG F scRt (fun vs H Q E h => ?_) (fun cdv A outer s H vs Q E hr hgd h => ?_)
  · obtain ⟨dl, cl, p, h, n, r, pp, hs, xs, ns, rs, ps, j, rfl, _⟩ := h
    rfl
  obtain ⟨dl, cl, p, h, n, r, pp, hs, xs, ns, rs, ps, j, rfl, pt, ok, q⟩ := h
  have hu := hr.units
  have hu2 := hu_of hr
  have hr1 : Room 1 _ := hr.mono (by decide)
  have hr2 : Room 2 _ := hr.mono (by decide)
  have hr4 : Room 4 _ := hr.mono (by decide)
  have hr5 : Room 5 _ := hr.mono (by decide)
  have hr6 : Room 6 _ := hr.mono (by decide)
  refine ⟨_, pss_cons (ps_asg (pv 1) (pg_tup rfl (pgs_cons (pg_name (i := 2) scRt.nd rfl (Or.inl rfl)) (pgs_cons (pg_name (i := 3) scRt.nd rfl (Or.inl rfl)) (pgs_cons (pg_name (i := 4) scRt.nd rfl (Or.inl rfl)) (pgs_cons (pg_name (i := 5) scRt.nd rfl (Or.inl rfl)) pgs_nil))))))
    (pss_cons (ps_asg (pe_tup (pa_cons (pe_make Mk0 I hr6 rfl mC bI .nil pass0 (pa_cons (pv 2) (pa_cons (pv 3) (pa_cons (pv 4) (pa_cons (pv 5) pa_nil))))) (pa_cons (pe_call U hr1 rfl mU kU bU .nil pass0 (pa_cons (pv 3) pa_nil)) pa_nil))) (pg_tup rfl (pgs_cons (pg_name (i := 6) scRt.nd rfl (Or.inr rfl)) (pgs_cons (pg_name (i := 7) scRt.nd rfl (Or.inl rfl)) pgs_nil))))
    (pss_cons (ps_par (i := 8) (j := 9) (by rfl) scRt.nd rfl rfl (by decide) rfl rfl (pa_cons (pe_lc (own := [("note", 14)]) (g := gName 14) (tt := tYes) rfl scRt.nd (pi_listK (K := K) rfl (pv 3)) (blkOk_by (N := nRight) (sc := defScope sRight) (by decide +kernel)) (fun _ _ _ _ _ => pg_name (i := 14) scRt.nd rfl (Or.inl rfl)) (fun _ _ _ _ _ => pts_nil) (fun _ _ _ _ _ => (pe_ix (ixTupK (K := K) rfl) (pv 14) pe_int (fun _ _ => rfl)))) (pa_cons (pe_call Al hr1 rfl mAl kAl bAl .nil pass0 (pa_cons (pv 7) (pa_cons (pv 5) pa_nil))) pa_nil)) (by rfl))
    (pss_cons (ps_if (PW.pt (pw_or (pt_not (pt_val (peCallG Hr hr5 hgd rfl mHr kHr bHr .nil pass0 (pa_cons (pv 6) (pa_cons (pv 2) (pa_cons (pv 3) (pa_cons (pv 4) (pa_cons (pv 9) pa_nil)))))))) (pw_or1 (pt_not (pt_val (peCallG Prs hr5 hgd rfl mPrs kPrs bPrs .nil pass0 (pa_cons (pv 0) (pa_cons (pv 6) (pa_cons (pv 8) (pa_cons (pv 7) pa_nil)))))))))) (pss_one (ps_ret pe_bl)) pss_nil)
    (pss_cons (ps_for PassesOwn.never rfl (pi_listK (K := K) rfl (pv 3)) (pg_tupK (K := K) rfl rfl (pgs_cons (pg_name (i := 10) scRt.nd rfl (Or.inl rfl)) (pgs_cons (pg_name (i := 11) scRt.nd rfl (Or.inl rfl)) (pgs_cons (pg_name (i := 12) scRt.nd rfl (Or.inl rfl)) pgs_nil))) rfl) (pss_one (ps_if (PW.pt (pw_or (pt_cmpR op_ne (pe_callB (reprK (K := K) rfl hgd hu) (by rfl) mre (by decide +kernel) (pa_cons (pe_call Ho hr4 rfl mHo kHo bHo .nil pass0 (pa_cons (pv 6) (pa_cons (pv 10) pa_nil))) pa_nil)) (pe_callB (reprK (K := K) rfl hgd hu) (by rfl) mre (by decide +kernel) (pa_cons (pv 11) pa_nil)) (nomark _)) (pw_or1 (pt_cmpR op_ne (pe_callB (reprK (K := K) rfl hgd hu) (by rfl) mre (by decide +kernel) (pa_cons (pe_call Uo hr4 rfl mUo kUo bUo .nil pass0 (pa_cons (pv 6) (pa_cons (pv 10) pa_nil))) pa_nil)) (pe_callB (reprK (K := K) rfl hgd hu) (by rfl) mre (by decide +kernel) (pa_cons (pe_callTy (tupOfK (K := K) rfl) (by rfl) mt (by decide +kernel) (pa_cons (pe_callB (sortSK (K := K) rfl) (by rfl) mS (by decide +kernel) (pa_cons (pe_dget hu2 (pv 7) (pv 10) (fun _ _ => rfl)) pa_nil)) pa_nil)) pa_nil)) (nomark _))))) (pss_one (ps_ret pe_bl)) pss_nil)))
    (pss_cons (ps_if (PW.pt (pw_or (pt_not (pt_val (peCallG Lts hr5 hgd rfl mLts kLts bLts .nil pass0 (pa_cons (pv 0) (pa_cons (pv 6) (pa_cons (pv 8) (pa_cons (pv 7) pa_nil))))))) (pw_or1 (pt_not (pt_val (peCallG Sg hr hgd rfl mSg kSg bSg .nil pass0 (pa_cons (pv 0) (pa_cons (pv 6) (pa_cons (pv 2) (pa_cons (pv 8) pa_nil)))))))))) (pss_one (ps_ret pe_bl)) pss_nil)
    (pss_cons (ps_if (PW.pt (pw_or (pt_cmpR (neDK (K := K) rfl hu) (peCallK0 Co hr4 rfl mCo kCo kbCo pass0 (pk_cons (pv 5) (pk_cons (pv 6) pk_nil))) (peCallK0 Wp hr2 rfl mWp kWp kbWp pass0 (pk_cons (pv 6) pk_nil)) (nomark _)) (pw_or1 (pt_cmpR (neDK (K := K) rfl hu) (peCallK0 Uo hr4 rfl mUo kUo kbUo pass0 (pk_cons (pe_ix (ixListK (K := K) rfl) (pv 8) pe_int (fun _ _ => rfl)) (pk_cons (pv 6) pk_nil))) (pe_tup (pa_cons (pe_ix (ixListK (K := K) rfl) (pv 8) pe_int (fun _ _ => rfl)) pa_nil)) (nomark _))))) (pss_one (ps_ret pe_bl)) pss_nil)
    (pss_cons (ps_set (i := 13) scRt.nd rfl (Or.inl rfl) (pe_callTy (tupOfK (K := K) rfl) (by rfl) mt (by decide +kernel) (pa_cons (pe_callB (sortSK (K := K) rfl) (by rfl) mS (by decide +kernel) (pa_cons (pe_lc (own := [("hand", 11)]) (g := gName 11) (tt := tYes) rfl scRt.nd (pi_listK (K := K) rfl (pv 2)) (blkOk_by (N := nRight) (sc := defScope sRight) (by decide +kernel)) (fun _ _ _ _ _ => pg_name (i := 11) scRt.nd rfl (Or.inl rfl)) (fun _ _ _ _ _ => pts_nil) (fun _ _ _ _ _ => (peCallK0 Kn hr4 rfl mKn kKn kbKn pass0 (pk_cons (pv 11) (pk_cons (pv 6) pk_nil))))) pa_nil)) pa_nil)))
    (pss_cons (ps_if (PW.pt (pw_or (pt_cmpR op_ne (pe_callB (reprK (K := K) rfl hgd hu) (by rfl) mre (by decide +kernel) (pa_cons (pe_call Co hr4 rfl mCo kCo bCo .nil pass0 (pa_cons (pv 6) (pa_cons (pv 13) pa_nil))) pa_nil)) (pe_callB (reprK (K := K) rfl hgd hu) (by rfl) mre (by decide +kernel) (pa_cons (pv 9) pa_nil)) (nomark _)) (pw_or1 (pt_cmpR (notInSeqK (K := K) rfl) (pe_ix (ixTupK (K := K) rfl) (peCallK0 No hr4 rfl mNo kNo kbNo pass0 (pk_cons (pe_ix (ixListK (K := K) rfl) (pv 2) pe_int (fun _ _ => rfl)) (pk_cons (pv 6) pk_nil))) pe_int (fun _ _ => rfl)) (pv 8) (by rfl))))) (pss_one (ps_ret pe_bl)) pss_nil)
    (pss_cons (ps_if (pt_cmpR op_ne (peCallK0 Ho hr4 rfl mHo kHo kbHo pass0 (pk_cons (peCallK0 Rn hr4 rfl mRn kRn kbRn pass0 (pk_cons (pe_ix (ixListK (K := K) rfl) (pv 2) pe_int (fun _ _ => rfl)) (pk_cons (pv 6) pk_nil))) (pk_cons (pv 6) pk_nil))) (pe_ix (ixListK (K := K) rfl) (pv 2) pe_int (fun _ _ => rfl)) (nomark _)) (pss_one (ps_ret pe_bl)) pss_nil)
    (pss_one (ps_ret (pe_cmpR op_eq (pe_callB (reprK (K := K) rfl hgd hu) (by rfl) mre (by decide +kernel) (pa_cons (pe_tup (pa_cons (pe_fldK (K := K) rfl (pv 6) rfl) (pa_cons (pe_fldK (K := K) rfl (pv 6) rfl) (pa_cons (pe_fldK (K := K) rfl (pv 6) rfl) pa_nil)))) pa_nil)) (pe_callB (reprK (K := K) rfl hgd hu) (by rfl) mre (by decide +kernel) (pa_cons (pe_tup (pa_cons (pe_callTy (tupOfK (K := K) rfl) (by rfl) mt (by decide +kernel) (pa_cons (pv 2) pa_nil)) (pa_cons (pe_callTy (tupOfK (K := K) rfl) (by rfl) mt (by decide +kernel) (pa_cons (pv 3) pa_nil)) (pa_cons (pv 5) pa_nil)))) pa_nil)) (nomark _))))))))))))), ?_⟩
  have D := j.1
  have forty := ok.forty
  refine ⟨_, rfl, p, _, rfl, SqT.of pt.ep, rfl, _, _, rfl, _, _, rfl, _, _, rfl, _, _, rfl, rfl, ?_⟩
  dsimp only [gName]
  refine atS (σ' := [some (.ref dl), some (.ref p), some (.ref h), some (.ref n), some (.ref r), some (.ref pp), none, none, none, none, none, none, none, none, none]) rfl ?_
  refine ⟨_, rfl, _, rfl, _, rfl, _, rfl, fun x dx hx hdx hne => ?_⟩
  have s0 : Same H (upd (upd H dx (.own x)) x (.ins C dx [])) := fun b o e => by
    rw [upd_ne (ne_of_none e hx), upd_ne (ne_of_none e hdx)]
    exact e
  refine ⟨x, dx, h, n, r, pp, hs, xs, ns, rs, ps, rfl, upd_same, (pt.parts (K := K)).same s0, ok, fun H1 k1 pm pm2 => ⟨rfl, ?_⟩⟩
  have s1 : Same H H1 := fun b o e => k1 b o (fun z => ne_of_none e hx z) (s0 b o e)
  have D1 := DealAt.ofSame D s1
  obtain ⟨xo1, xo2⟩ := dealOff D hx
  have pt1 : PtAt (dc dl cl) H1 p h n r pp hs xs ns rs ps := pt.kt (.same s1)
  have fa1 : ∀ H', KT dl cl H1 H' → FullAt K C H' x hs xs ns rs ps := fun H' k => ⟨pm.kt (fun y hy => dealOff D (s0.free hy)) ⟨xo1, xo2⟩ k, pm2.kt (fun y hy => dealOff D (s0.free hy)) ⟨xo1, xo2⟩ k ((pt1.kt k).parts (K := K)).nt (SqT.of (pt1.kt k).epp)⟩
  refine ⟨_, rfl, n, xs, ns, rfl, SqL.of pt1.en, (pt1.parts (K := K)).nt, ok.nt, forty, fun b kvs H2 s2 nb e2 fk ky => ⟨by show 2 ≤ sizeLine; decide, fun t ht => ⟨t, _, rfl, SqT.of upd_same, rfl, _, _, rfl, _, _, rfl, rfl, ?_⟩⟩⟩
  have s2t := s2.trans (smNew (o := .tup [V.ref x, V.ref b]) ht)
  have e2t := smNew (o := .tup [V.ref x, V.ref b]) ht _ _ e2
  have fkt := fk.same (smNew (o := .tup [V.ref x, V.ref b]) ht)
  dsimp only [gName]
  generalize upd H2 t (.tup [V.ref x, V.ref b]) = H3 at s2t e2t fkt ⊢
  have s3 := s1.trans s2t
  have j1 : tJ dl cl Pt qStr H1 := j.same s1
  have j3 : tJ dl cl Pt qStr H3 := j.same s3
  obtain ⟨w, rfl, rfl, rfl, rfl, rfl, Fx, stw⟩ := pk_hold (q := qStr) (Pt := Pt) j3 ok fun H' k => fa1 H' ((KT.same s2t).trans k)
  obtain ⟨m, B, stb⟩ := bel_made ok.nt j3 j1.al e2t fkt ky
  obtain ⟨dh, dn, dr, dp⟩ := pt_data (K := K) j3 (pt1.kt (.same s2t))
  have nC : ∀ x, DS (tabC K H3 dl cl Pt qStr j3) [] x → tS dl cl Pt x := fun x z => z.elim id fun q => by cases q
  have G : Good (tabC K H3 dl cl Pt qStr j3) [] H3 (start nRight [.ref dl, .ref p, .ref h, .ref n, .ref r, .ref pp, .ref w.x, .ref b]) (startE nRight [.p (isR dl), .p (fun _ _ => True), .d (strL w.hs), .d (notesD w.ns), .d (strL w.rs), .d (strT w.ps), .p (isPk K C w), .p (isBel m)]) :=
    gen_start rfl rfl rfl j3 (.cons (St'.pure (show isR dl H (.ref dl) from rfl)) (.cons (St'.pure True.intro) (.cons (Dq.sub (S := tS dl cl Pt) dh nC) (.cons (Dq.sub (S := tS dl cl Pt) dn nC) (.cons (Dq.sub (S := tS dl cl Pt) dr nC) (.cons (Dq.sub (S := tS dl cl Pt) dp nC) (.cons (St'.mono (St'.sub nC stw) fun H' h => ⟨rfl, h⟩) (.cons (St'.sub nC stb) .nil)))))))) fun e he => by
      simp only [List.mem_cons, List.not_mem_nil, or_false] at he
      rcases he with rfl | rfl | rfl | rfl | rfl | rfl | rfl | rfl <;> exact True.intro
  refine atS (σ' := start nRight [.ref dl, .ref p, .ref h, .ref n, .ref r, .ref pp, .ref w.x, .ref b]) rfl ?_
  have n40 := Fx.ok.forty
  have n2 := Fx.ok.two
  have ml : m.length = w.ns.length := by
    have z := congrArg List.length B.keys
    rw [List.length_map, List.length_map] at z
    exact z
  have hd : HasDeal (tabC K H3 dl cl Pt qStr j3) dl cl := tabC_has
  have zsh : ∀ {m : Nat}, Shn (strT (lotM w m)) := fun {m} => (fitStrs (lotM_nm Fx) (Nat.le_trans (lotM_len Fx) (by decide))).shn
  have nmd : ∀ j, j < w.ns.length → Shn (.str (nameAt w.ns j)) := fun j lj => (fitStr (Fx.ok.nms j lj)).shn
  have psB : ∀ z ∈ w.ps, (∃ bs, getB m z = some bs) ∧ IsNm z := fun z hz => by
    obtain ⟨i, li, rfl⟩ := Fx.ok.pp.kn z hz
    obtain ⟨bs, gb, _⟩ := B.get i li
    exact ⟨⟨bs, gb⟩, Fx.ok.nms i li⟩
  -- names, whole
  refine seq (s_par (x := strL (nms w)) (y := strT (lotM w w.wm)) G ((lc_m (as := List.range w.ns.length) (ea := ntD w.ns) (f := fun k => .str (nameAt w.ns k)) (vi_list rfl (v_vd (x := notesD w.ns) rfl)) (szOf (by rw [List.length_range]; omega)) (tg_name 14) (by simp) fun k hk => v_ixT rfl (v_vd (x := ntD w.ns k) rfl) (v_int 0).w rfl).d.eq (by
      show _ = PyData.list ((w.ns.map (·.1)).map .str)
      rw [nameMap, List.map_map]
      rfl)) ((v_callE rfl (ve_cons (v_var (e := .p (isBel m)) rfl) (ve_cons (v_var (e := .d (strT w.ps)) rfl) ve_nil)) (fx_cons True.intro (fx_cons True.intro fx_nil)) ⟨m, w.ps, _, rfl, .inr rfl, by omega, by have := Fx.ok.pp.len; omega, psB, rfl⟩).eq (by rw [allB_eq Fx B (ps_nms Fx), lotM_paper Fx]; rfl)) fun σ' H' G => ?_)
  let g0 (a10 a11 a12 a13 : Option Ent) : Gm := [some (.p (isR dl)), some (.p (fun _ _ => True)), some (.d (strL w.hs)), some (.d (notesD w.ns)), some (.d (strL w.rs)), some (.d (strT w.ps)), some (.p (isPk K C w)), some (.p (isBel m)), some (.d (strL (nms w))), some (.d (strT (lotM w w.wm))), a10, a11, a12, a13, none]
  have G : Good (tabC K H3 dl cl Pt qStr j3) [] H' σ' (g0 none none none none) := G
  -- the hands, the pairs
  have prs : ∀ {a10 a11 a12 a13 : Option Ent}, Vd (tabC K H3 dl cl Pt qStr j3) (g0 a10 a11 a12 a13) (tCall (spED K (rPrs K C)) [] E0 (tCons (tVar 0) (tCons (tVar 6) (tCons (tVar 8) (tCons (tVar 7) tNil))))) (.bool true) := fun {a10 a11 a12 a13} =>
    Vr.w1 (v_callED (es := [.p (isPk K C w), .d (strL (nms w)), .p (isBel m)]) hd rfl rfl (ve_cons (v_var rfl) (ve_cons (v_var rfl) (ve_cons (v_var rfl) ve_nil))) (fx_cons True.intro (fx_cons True.intro (fx_cons True.intro fx_nil))) ⟨.bool true, w, m, Fx, B, rfl, rfl⟩) fun y h => by
      obtain ⟨_, _, _, _, _, e⟩ := h
      exact e
  have hr_ : Vd (tabC K H3 dl cl Pt qStr j3) (g0 none none none none) (tCall (spE K (rHr K C)) [] E0 (tCons (tVar 6) (tCons (tVar 2) (tCons (tVar 3) (tCons (tVar 4) (tCons (tVar 9) tNil)))))) (.bool true) :=
    v_callE (es := [.p (isPk K C w), .d (strL w.hs), .d (notesD w.ns), .d (strL w.rs), .d (strT (lotM w w.wm))]) rfl (ve_cons (v_var rfl) (ve_cons (v_var rfl) (ve_cons (v_var rfl) (ve_cons (v_var rfl) (ve_cons (v_var rfl) ve_nil))))) (fx_cons True.intro (fx_cons True.intro (fx_cons True.intro (fx_cons True.intro (fx_cons True.intro fx_nil))))) ⟨w, Fx, rfl, rfl⟩
  refine seq (s_if (b := false) G ((t_or (t_not (t_B hr_.w)) fun _ => t_not (t_B prs.w)).eq rfl) (fun e => absurd e (by decide)) fun _ H' G => ?_)
  -- each note
  refine seq (s_for (as := List.range w.ns.length) (ea := ntD w.ns) G (vi_list rfl (v_vd (x := notesD w.ns) rfl)) (fun H1 O1 => tg_three rfl (fun _ => rfl) 10 11 12) (fun _ Γ => ∃ a10 a11 a12, Γ = g0 a10 a11 a12 none) ⟨none, none, none, rfl⟩ ?_ ?_)
  · rintro H1 i k O' H' σ' _ hj ⟨a10, a11, a12, rfl⟩ G N kN
    have lk : k < w.ns.length := List.mem_range.mp (List.mem_of_getElem? hj)
    obtain ⟨bs, gb, bok⟩ := B.get k lk
    have lbs := bok.len
    refine s_if (b := false) G (t_or (t_reprNe (x := .str (handAt w.ns k)) rfl (VA.w (va_cons (v_callN rfl rfl Fx (va_cons (v_vd (x := .str (nameAt w.ns k)) rfl) va_nil) ⟨k, lk, rfl, rfl⟩) va_nil)) (VA.w (va_cons (v_vd rfl) va_nil)) (fitStr (hs_nm Fx (Fx.ok.hin k lk))).shn)
      fun _ => t_reprNe (x := strT (lotM w (w.ms.getD k 0))) rfl (VA.w (va_cons (v_callN rfl rfl Fx (va_cons (v_vd (x := .str (nameAt w.ns k)) rfl) va_nil) ⟨k, lk, rfl, rfl⟩) va_nil)) (VA.w (va_cons ((v_tupL rfl (va_cons (f_sortL (xs := bs) rfl (VA.w (va_cons (v_bget rfl bel_is (v_vd (x := .str (nameAt w.ns k)) rfl).w gb) va_nil)) (by omega)).d va_nil)).eq (by rw [lotM_below Fx lk bok]; rfl)) va_nil)) zsh) (fun e => absurd e (by decide)) fun _ H' G => kN _ _ _ _ ⟨_, _, _, rfl⟩ G
  rintro O1 H' σ' _ ⟨a10, a11, a12, rfl⟩ G
  dsimp only
  -- the lots, the strangers
  have sg : Vd (tabC K H3 dl cl Pt qStr j3) (g0 a10 a11 a12 none) (tCall (spStr K C Pt) [] E0 (tCons (tVar 0) (tCons (tVar 6) (tCons (tVar 2) (tCons (tVar 8) tNil))))) (.bool true) := fun O H σ G Q q => by
    obtain ⟨v0, h0, s0⟩ := G.at_ 0 (.p (isR dl)) rfl
    obtain ⟨v6, h6, s6⟩ := G.at_ 6 (.p (isPk K C w)) rfl
    obtain ⟨v2, h2, s2⟩ := G.at_ 2 (.d (strL w.hs)) rfl
    obtain ⟨v8, h8, s8⟩ := G.at_ 8 (.d (strL (nms w))) rfl
    have s0 : St' (DS (tabC K H3 dl cl Pt qStr j3) O) H fun H' => isR dl H' v0 := s0
    have s6 : St' (DS (tabC K H3 dl cl Pt qStr j3) O) H fun H' => isPk K C w H' v6 := s6
    obtain rfl : v0 = .ref dl := s0.now
    obtain rfl : v6 = .ref w.x := s6.now.1
    exact ⟨_, h0, _, h6, _, h2, _, h8, dl, cl, w, v2, v8, G.j, rfl, Fx, St'.mono (St'.sub (fun x z => .inl z) s6) (fun _ h => h.2), Dq.sub (S := DS (tabC K H3 dl cl Pt qStr j3) O) s2 (fun x z => .inl z), Dq.sub (S := DS (tabC K H3 dl cl Pt qStr j3) O) s8 (fun x z => .inl z), fun H' j' k' => q _ H' k' j' (.bl _)⟩
  refine seq (s_if (b := false) G ((t_or (t_not (t_B prs.w)) fun _ => t_not (t_B sg.w)).eq rfl) (fun e => absurd e (by decide)) fun _ H' G => ?_)
  -- what is asked once
  have e2 : nameAt w.ns 0 ∈ nms w := nms_mem.mpr ⟨0, by omega, rfl⟩
  have n0 : ∀ {c : Cf} {Γ : Gm}, K = c.K → Γ[8]? = some (some (.d (strL (nms w)))) → Vd c Γ (tOp (rIxL K) (tVar 8) (tC (.int 0))) (.str (nameAt w.ns 0)) := fun hK h => v_ixL hK (v_vd h) (v_int 0).w (ixS (i := 0) (by
    show (w.ns.map (·.1))[0]? = _
    rw [nameMap, List.getElem?_map, List.getElem?_range (by omega)]
    rfl))
  have shT : ∀ {zs : List Str}, (∀ z ∈ zs, IsNm z) → SeqAt.shaped (strT zs) = true := fun {zs} h => by
    simp [strT, SeqAt.shaped, PyData.canLay0, PyData.depth, layStrs zs h, depStrs]
  have same : ∀ {zs : List Str}, (∀ z ∈ zs, IsNm z) → (!PyData.eqv (strT zs) (strT zs)) = false := fun {zs} h => by
    rw [SeqAt.eqv_refl _ (SeqAt.canLay_of_shaped (shT h))]
    rfl
  refine seq (s_if (b := false) G ((t_or (t_B (v_neD (x := strT (lotM w w.wm)) (y := strT (lotM w w.wm)) ((v_kw1 (R := rCo) rfl rfl Fx (v_vd (x := strT w.ps) rfl) ⟨w.ps, by have := Fx.ok.pp.len; omega, Fx.ok.pp.kn, rfl, rfl⟩).eq (by rw [lotM_paper Fx]; rfl)).w (v_kw0 (R := rWp) rfl rfl Fx ⟨rfl, rfl⟩).w (shT (lotM_nm Fx)) (shT (lotM_nm Fx))).w)
    fun _ => t_B (v_neD (x := strT [nameAt w.ns 0]) (y := strT [nameAt w.ns 0]) ((v_kw1 (R := rUo) rfl rfl Fx (n0 rfl rfl) ⟨0, by omega, rfl, rfl⟩).eq (by rw [lotM_first Fx]; rfl)).w (v_tup (va_cons (n0 rfl rfl) va_nil) (by show 1 ≤ sizeLine; decide)).w (shT fun z hz => by rw [List.mem_singleton.mp hz]; exact Fx.ok.nms 0 (by omega)) (shT fun z hz => by rw [List.mem_singleton.mp hz]; exact Fx.ok.nms 0 (by omega))).w).eq (by
      rw [same (lotM_nm Fx), same fun z hz => by rw [List.mem_singleton.mp hz]; exact Fx.ok.nms 0 (by omega)]
      rfl)) (fun e => absurd e (by decide)) fun _ H' G => ?_)
  -- the key notes
  let kI (z : Str) : Nat := ((rowI w.ns z)[(keysI w z).length - 1]?).getD 0
  have kIe : ∀ z ∈ w.hs, ∃ init, keysI w z = init ++ [kI z] ∧ 1 ≤ (keysI w z).length ∧ (rowI w.ns z)[(keysI w z).length - 1]? = some (kI z) ∧ kI z < w.ns.length := fun z hz => by
    obtain ⟨k, init, a1, a2, a3, a4, _, _⟩ := keyAt Fx hz
    have e : kI z = k := by
      show ((rowI w.ns z)[(keysI w z).length - 1]?).getD 0 = k
      rw [a3]
      rfl
    rw [e]
    exact ⟨init, a1, a2, a3, a4⟩
  let kl : List Str := w.hs.map fun z => nameAt w.ns (kI z)
  have lkl : kl.length ≤ 6 := by
    show (w.hs.map fun z => nameAt w.ns (kI z)).length ≤ 6
    rw [List.length_map]
    exact Fx.ok.hd.six
  obtain ⟨kn, ke⟩ := lotM_keys Fx (lot := srt kl) fun x => by
    rw [srt_mem]
    constructor
    · intro h
      obtain ⟨z, hz, rfl⟩ := List.mem_map.mp h
      obtain ⟨init, a1, _⟩ := kIe z hz
      exact ⟨z, hz, kI z, init, a1, rfl⟩
    · rintro ⟨z, hz, k, init, e, rfl⟩
      obtain ⟨init', a1, _⟩ := kIe z hz
      rw [a1] at e
      have z2 := congrArg (fun l => l.getLast?) e
      rw [List.getLast?_append, List.getLast?_append] at z2
      have e3 : kI z = k := Option.some.inj z2
      rw [← e3]
      exact List.mem_map.mpr ⟨z, hz, rfl⟩
  refine seq (s_set (x := strT (srt kl)) G (v_tupL rfl (va_cons (f_sortL (xs := kl) rfl (VA.w (va_cons ((lc_m (as := w.hs) (ea := .str) (f := fun z => .str (nameAt w.ns (kI z))) (vi_list rfl (v_vd (x := strL w.hs) rfl)) (szOf (by have := Fx.ok.hd.six; omega)) (tg_name 11) (by simp) fun z hz => ?_).eq (ys := kl.map .str) (by
      show _ = (w.hs.map fun z => nameAt w.ns (kI z)).map PyData.str
      rw [List.map_map]
      rfl)).d va_nil)) (by omega)).d va_nil)) fun σ' H' G => ?_)
  · obtain ⟨init, a1, a2, a3, a4⟩ := kIe z hz
    exact v_kw1 (R := rKn) rfl rfl Fx (v_vd (x := .str z) rfl) ⟨z, kI z, hz, a2, a3, rfl, rfl⟩
  dsimp only
  have h2 := Fx.ok.hd.two
  have rl := Fx.ok.rl
  obtain ⟨z0, ez0⟩ : ∃ z0, w.hs[0]? = some z0 := ⟨_, List.getElem?_eq_getElem (by omega)⟩
  obtain ⟨z1, ez1⟩ : ∃ z1, w.hs[1]? = some z1 := ⟨_, List.getElem?_eq_getElem (by omega)⟩
  obtain ⟨y1, ey1⟩ : ∃ y1, w.rs[1]? = some y1 := ⟨_, List.getElem?_eq_getElem (by omega)⟩
  obtain ⟨k1, lk1, ek1, hk1⟩ := Fx.ok.rd 1 y1 ey1
  rw [ez1] at hk1
  have hk1 : z1 = handAt w.ns k1 := Option.some.inj hk1
  obtain ⟨r0, er0⟩ : ∃ r0, (rowI w.ns z0)[0]? = some r0 := by
    obtain ⟨init, a1, a2, a3, a4⟩ := kIe z0 (List.mem_of_getElem? ez0)
    have lt := (List.getElem?_eq_some_iff.mp a3).1
    exact ⟨_, List.getElem?_eq_getElem (by omega)⟩
  have lr0 := (row_mem.mp (List.mem_of_getElem? er0)).1
  refine seq (s_if (b := false) G ((t_or (t_reprNe (x := strT (lotM w w.wm)) rfl (VA.w (va_cons ((v_callN (R := rCo) rfl rfl Fx (va_cons (v_vd (x := strT (srt kl)) rfl) va_nil) ⟨srt kl, by rw [srt_len]; omega, fun z hz => nms_mem.mp (kn z hz), rfl, rfl⟩).eq (by rw [ke]; rfl)) va_nil)) (VA.w (va_cons (v_vd rfl) va_nil)) zsh)
    fun _ => t_B (v_ninL (s := nameAt w.ns r0) (zs := nms w) rfl (v_ixT rfl (v_kw1 (R := rNo) (y := .str z0) rfl rfl Fx (v_ixL rfl (v_vd (x := strL w.hs) rfl) (v_int 0).w (ixS (i := 0) ez0)) ⟨z0, List.mem_of_getElem? ez0, rfl, rfl⟩) (v_int 0).w (ixS (i := 0) (by rw [List.getElem?_map, er0]; rfl))).w (v_vd rfl).w).w).eq (by
      rw [decide_eq_true (nms_mem.mpr ⟨r0, lr0, rfl⟩)]
      rfl)) (fun e => absurd e (by decide)) fun _ H' G => ?_)
  refine seq (s_if (b := false) G ((t_B (v_neS (s := z1) (t := z1) (v_kw1 (R := rHo) (y := .str y1) rfl rfl Fx (v_kw1 (R := rRn) (y := .str z1) rfl rfl Fx (v_ixL rfl (v_vd (x := strL w.hs) rfl) (v_int 1).w (ixS (i := 1) ez1)) ⟨1, z1, y1, ez1, ey1, rfl, rfl⟩) ⟨k1, lk1, by rw [ek1], by rw [hk1]⟩).w (v_ixL rfl (v_vd (x := strL w.hs) rfl) (v_int 1).w (ixS (i := 1) ez1)).w).w).eq (by rw [decide_eq_true rfl]; rfl)) (fun e => absurd e (by decide)) fun _ H' G => ?_)
  -- what it keeps
  have fn : ∀ d ∈ (List.range w.ns.length).map (ntD w.ns), Fit 2 3000 d := fun d hd => by
    obtain ⟨k, hk, rfl⟩ := List.mem_map.mp hd
    have lk := List.mem_range.mp hk
    have lw := Fx.ok.nt.wlen lk
    have z := fitTup (k := 1) (b := 64 * 9) (n := 3) (ds := [.str (nameAt w.ns k), .str (handAt w.ns k), .tuple ((waitAt w.ns k).map .str)]) (fun d hd => by
      simp only [List.mem_cons, List.not_mem_nil, or_false] at hd
      rcases hd with rfl | rfl | rfl
      · exact (fitStr (Fx.ok.nms k lk)).mono (by decide) (by decide)
      · exact (fitStr (hs_nm Fx (Fx.ok.hin k lk))).mono (by decide) (by decide)
      · refine fitStrs (fun z hz => ?_) (by omega)
        obtain ⟨k', lk', rfl⟩ := Fx.ok.nt.wt k lk z hz
        exact Fx.ok.nms k' (by omega)) (by show 3 ≤ 3; decide)
    exact Fit.mono z (by decide) (by decide)
  have sh : Shn (.tuple [strT w.hs, .tuple ((List.range w.ns.length).map (ntD w.ns)), strT w.ps]) := by
    refine (fitTup (k := 3) (b := 130000) (n := 3) (fun d hd => ?_) (by show 3 ≤ 3; decide)).shn
    simp only [List.mem_cons, List.not_mem_nil, or_false] at hd
    rcases hd with rfl | rfl | rfl
    · exact (fitStrs (fun z hz => hs_nm Fx hz) (by have := Fx.ok.hd.six; omega)).mono (by decide) (by decide)
    · exact (fitTup (k := 2) (b := 3000) (n := 40) fn (by rw [List.length_map, List.length_range]; exact n40)).mono (by decide) (by decide)
    · refine (fitStrs (fun z hz => nms_nm Fx (ps_nms Fx z hz)) (by have := Fx.ok.pp.len; omega)).mono (by decide) (by decide)
  refine s_ret G (v_reprEq (x := .tuple [strT w.hs, .tuple ((List.range w.ns.length).map (ntD w.ns)), strT w.ps]) rfl (VA.w (va_cons (v_tup (va_cons (v_hands T Fx rfl rfl) (va_cons (v_notes T Fx rfl rfl) (va_cons (v_paper T Fx rfl rfl) va_nil))) (by show 3 ≤ sizeLine; decide)) va_nil))
    (VA.w (va_cons (v_tup (va_cons (v_tupL rfl (va_cons (v_vd (x := strL w.hs) rfl) va_nil)) (va_cons (v_tupL rfl (va_cons (v_vd (x := notesD w.ns) rfl) va_nil)) (va_cons (v_vd (x := strT w.ps) rfl) va_nil))) (by show 3 ≤ sizeLine; decide)) va_nil)) sh) fun v H' k jj d => ?_
  cases d
  exact q H' jj ((KS.of s3).trans k)
end
end L2.K2


namespace L2.Bv
open PySem PySem.Spec PyProof.Rows Bov
/-! ### own exception classes, read off the head -/
abbrev keB : List Value := [.type "KeyError", .type "LookupError", .type "Exception", .type "BaseException", .type "object"]
/-- at C stands a class over exceptions, its mro bm -/
def excHd (K : PySem.W.Frag) (C : Addr) (bm : List Value) (nw : String) : Bool :=
  match K.lookup C with
  | some ⟨.type t, _, .cls cd, sl⟩ =>
    (match cd.mro, sl.toList with
      | .ref C' :: m, [_, _, _, _, some (.builtin n), _] => decide (t = "type") && decide (C' = C) && decide (n = nw) && !cd.hasDel && cd.hasDict && decide (m = bm)
      | _, _ => false)
  | _ => false
theorem excHd_ok {K : PySem.W.Frag} {C : Addr} {bm : List Value} {nw : String} (h : excHd K C bm nw = true) :
    ∃ nn qn N bs sn sub ab col dd k0 k1 k2 k3 k5, K.lookup C = some (excClassObj nn qn C N bs bm true sn sub ab col dd k0 k1 k2 k3 k5 nw) := by
  unfold excHd at h
  split at h
  · rename_i t dd cd sl ho
    split at h
    · rename_i C' m k0 k1 k2 k3 n k5 hm hs
      obtain ⟨h, e6⟩ := Bool.and_eq_true_iff.mp h
      obtain ⟨h, e5⟩ := Bool.and_eq_true_iff.mp h
      obtain ⟨h, e4⟩ := Bool.and_eq_true_iff.mp h
      obtain ⟨h, e3⟩ := Bool.and_eq_true_iff.mp h
      obtain ⟨e1, e2⟩ := Bool.and_eq_true_iff.mp h
      have e1 := of_decide_eq_true e1
      have e2 := of_decide_eq_true e2
      have e3 := of_decide_eq_true e3
      have e6 := of_decide_eq_true e6
      subst e1 e2 e3 e6
      obtain ⟨nm, bs, mro, ns, qn, hd, sn, sub, ab, col, del⟩ := cd
      have hm : mro = .ref C' :: m := hm
      have f5 : hd = true := e5
      have f4 : del = false := by
        cases del with
        | false => rfl
        | true => cases e4
      subst hm f5 f4
      have sle : sl = #[k0, k1, k2, k3, some (.builtin n), k5] := by
        obtain ⟨l⟩ := sl
        have z : l = [k0, k1, k2, k3, some (.builtin n), k5] := hs
        rw [z]
      subst sle
      exact ⟨nm, qn, ns, bs, sn, sub, ab, col, dd, k0, k1, k2, k3, k5, ho⟩
    · cases h
  · cases h
/-- what an own error over KeyError with one field gives -/
def errB (K : PySem.W.Frag) (C : Addr) (f : Str) : Bool :=
  excHd K C keB "LookupError.__new__" && He.eqO (PySem.W.findIn K (.ref C) "__setattr__") (some (some (.builtin "object.__setattr__"))) && He.eqO (PySem.W.findIn K (.ref C) "__getattribute__") (some (some (.builtin "BaseException.__getattribute__"))) &&
  He.eqO (PySem.W.findIn K (.ref C) "__getattr__") (some none) && He.eqO (PySem.W.findIn K (.ref C) "__class__") (some (some (.builtin "object.__class__"))) && PySem.W.keepIn K (.ref C) && He.eqO (PySem.W.findIn K (.ref C) f) (some none) &&
  He.eqO (PySem.W.findIn K (.ref C) "__init__") (some (some (.ref (He.ma K C "__init__")))) && decide (PySem.W.typeIn K (.ref (He.ma K C "__init__")) = some (.type "function"))
structure ErrK (K : PySem.W.Frag) (C : Addr) (f : Str) : Prop where
  ec : EC K C keB
  no : PySem.W.findIn K (.ref C) f = some none
  ini : PySem.W.findIn K (.ref C) "__init__" = some (some (.ref (He.ma K C "__init__")))
  fn : PySem.W.typeIn K (.ref (He.ma K C "__init__")) = some (.type "function")
theorem errB_ok {K : PySem.W.Frag} {C : Addr} {f : Str} (h : errB K C f = true) : ErrK K C f := by
  obtain ⟨h, e9⟩ := Bool.and_eq_true_iff.mp h
  obtain ⟨h, e8⟩ := Bool.and_eq_true_iff.mp h
  obtain ⟨h, e7⟩ := Bool.and_eq_true_iff.mp h
  obtain ⟨h, e6⟩ := Bool.and_eq_true_iff.mp h
  obtain ⟨h, e5⟩ := Bool.and_eq_true_iff.mp h
  obtain ⟨h, e4⟩ := Bool.and_eq_true_iff.mp h
  obtain ⟨h, e3⟩ := Bool.and_eq_true_iff.mp h
  obtain ⟨e1, e2⟩ := Bool.and_eq_true_iff.mp h
  obtain ⟨nn, qn, N, bs, sn, sub, ab, col, dd, k0, k1, k2, k3, k5, e⟩ := excHd_ok e1
  exact ⟨{ cls := ⟨_, _, _, _, PySem.F.excBase_LookupError, rfl, nn, qn, N, bs, sn, sub, ab, col, dd, k0, k1, k2, k3, k5, e⟩, okA := rfl, okN := rfl, okO := rfl, okE := rfl, pass := fun me => by kernel_rfl, sa := He.eqO_ok e2, ga := He.eqO_ok e3, gg := He.eqO_ok e4, ca := He.eqO_ok e5, kC := e6 },
    He.eqO_ok e7, He.eqO_ok e8, of_decide_eq_true e9⟩
/-- a def's datum by its name and text -/
abbrev dOf (x : Str) (st : Stmt) : He.DefD := ⟨(x, none), x, x, defArgs st, defBody st, defScope st, [], []⟩
/-- a method's -/
abbrev mOf (C m q : Str) (st : Stmt) : He.DefD := ⟨(C, some m), m, q, defArgs st, defBody st, defScope st, [], []⟩
theorem funOf {K : PySem.W.Frag} {x q : Str} {st : Stmt} {f : Addr} {fd : FuncData} (F : FunD K x q (defArgs st) (defBody st) (defScope st) [] [] f fd) : Fun K x q st f fd := by
  obtain ⟨oc, od, dV, kV, doc, pm, an, cdv, ct, osl, rfl, lk, hcd, hD, hK⟩ := F.ex
  rcases hD with ⟨_, rfl⟩ | ⟨e, _⟩
  · exact ⟨⟨oc, od, kV, doc, pm, an, cdv, ct, osl, rfl, lk, hcd⟩, F.kp⟩
  · exact absurd rfl e
end L2.Bv
namespace L2.K2
open PySem L2 L2.Bv L2.Pc L2.Ts L2.Da PyProof.Rows Bov LamX
abbrev sLaw : Stmt := top 60
theorem scLaw : FnScope ["script", "heap", "parts"] ["script"] (defScope sLaw) := ⟨rfl, rfl, rfl, by decide +kernel, rfl, by decide +kernel, by decide +kernel⟩
theorem valsRev {vs : List V} {us : List Value} (r : Vals vs us) : Vals vs.reverse us.reverse := by
  induction r with
  | nil => exact .nil
  | cons a b ih =>
    rw [List.reverse_cons, List.reverse_cons]
    exact ih.append (.cons a .nil)
theorem kb2 {K : PySem.W.Frag} {fd : FuncData} {x y : Str} (hb : ∀ (s : Shared) (a b : Value), BindsTo s fd ⟨[], [(y, a), (x, b)]⟩ [(x, b), (y, a)]) : KBinds K fd [x, y] [y, x] (fun us ws => if us = [] then ws.reverse else []) (fun vs zs => if vs = [] then zs.reverse else []) := by
  refine ⟨fun s us ws _ hl => ?_, fun {vs us zs ws} r1 r2 => ?_⟩
  · by_cases e : us = []
    · subst e
      rw [if_pos rfl] at hl
      rw [if_pos rfl]
      rw [List.length_reverse] at hl
      have hl2 : ws.length = 2 := hl
      match ws, hl2 with
      | [a, b], _ => exact hb s a b
    · rw [if_neg e] at hl
      cases hl
  · cases r1 with
    | nil =>
      rw [if_pos rfl, if_pos rfl]
      exact valsRev r2
    | cons a b =>
      rw [if_neg (fun z => nomatch z), if_neg (fun z => nomatch z)]
      exact .nil
theorem kb3 {K : PySem.W.Frag} {fd : FuncData} {x y z : Str} (hb : ∀ (s : Shared) (a b c : Value), BindsTo s fd ⟨[], [(z, a), (y, b), (x, c)]⟩ [(x, c), (y, b), (z, a)]) : KBinds K fd [x, y, z] [z, y, x] (fun us ws => if us = [] then ws.reverse else []) (fun vs zs => if vs = [] then zs.reverse else []) := by
  refine ⟨fun s us ws _ hl => ?_, fun {vs us zs ws} r1 r2 => ?_⟩
  · by_cases e : us = []
    · subst e
      rw [if_pos rfl] at hl
      rw [if_pos rfl]
      rw [List.length_reverse] at hl
      have hl2 : ws.length = 3 := hl
      match ws, hl2 with
      | [a, b, c], _ => exact hb s a b c
    · rw [if_neg e] at hl
      cases hl
  · cases r1 with
    | nil =>
      rw [if_pos rfl, if_pos rfl]
      exact valsRev r2
    | cons a b =>
      rw [if_neg (fun z => nomatch z), if_neg (fun z => nomatch z)]
      exact .nil
theorem kb1 {K : PySem.W.Frag} {fd : FuncData} {x : Str} (hb : ∀ (s : Shared) (a : Value), BindsTo s fd ⟨[], [(x, a)]⟩ [(x, a)]) : KBinds K fd [x] [x] (fun us ws => if us = [] then ws.reverse else []) (fun vs zs => if vs = [] then zs.reverse else []) := by
  refine ⟨fun s us ws _ hl => ?_, fun {vs us zs ws} r1 r2 => ?_⟩
  · by_cases e : us = []
    · subst e
      rw [if_pos rfl] at hl
      rw [if_pos rfl]
      rw [List.length_reverse] at hl
      have hl2 : ws.length = 1 := hl
      match ws, hl2 with
      | [a], _ => exact hb s a
    · rw [if_neg e] at hl
      cases hl
  · cases r1 with
    | nil =>
      rw [if_pos rfl, if_pos rfl]
      exact valsRev r2
    | cons a b =>
      rw [if_neg (fun z => nomatch z), if_neg (fun z => nomatch z)]
      exact .nil
def spLaw (K : PySem.W.Frag) (Pt : Addr) : Sp := fun vs H Q _ => ∃ (a : Addr) (ns : List Int), vs = [.ref a] ∧ Tabs [(Pt, qStr)] H ∧ SqL K H a (ns.map V.int) ∧ ns.length ≤ 63 ∧ ∀ H', Q (.bl true) H'
theorem ok_law {P : Program} {w : World} {K : PySem.W.Frag} {mg : Str → Option Value} {base : Heap} {Pt f g : Addr} {fd gd : FuncData} (F : Fun K "law" "law" sLaw f fd) (D : Dn P w K mg base 1 "_law_heap" ["script", "base"] (spDeal K)) (Mo : Dn P w K mg base 3 "_law_most" ["heap"] spMost)
    (Pk : Dn P w K mg base 4 "_law_pact" ["heap", "most"] spPact) (Tw : Dn P w K mg base 3 "_law_twin" ["heap", "parts"] spTwin) (R : FnG P w K mg base CX0 8 g gd ["heap", "parts"] (spRight Pt)) (kR : PySem.W.keepIn K (.ref g) = true) (bR : Binds K gd ["heap", "parts"] []) (mR : mg "_law_right" = some (.ref g)) :
    FnG P w K mg base CX0 9 f fd ["script"] (spLaw K Pt) := by
  obtain ⟨d0, dd, D, kD, bD, mD⟩ := D.ex
  obtain ⟨o0, od, Mo, kM, bM, mM⟩ := Mo.ex
  obtain ⟨p0, pd, Pk, kP, bP, mP⟩ := Pk.ex
  obtain ⟨t0, td, Tw, kT, bT, mT⟩ := Tw.ex
  refine okG F scLaw (fun vs H Q E h => ?_) (fun cdv A outer s H vs Q E hr hgd h => ?_)
  · obtain ⟨a, ns, rfl, _⟩ := h
    rfl
  obtain ⟨a, ns, rfl, tb, hS, hl, q⟩ := h
  have hr1 : Room 1 _ := hr.mono (by decide)
  have hr3 : Room 3 _ := hr.mono (by decide)
  have hr4 : Room 4 _ := hr.mono (by decide)
  refine ⟨_, pss_cons (ps_set (i := 1) scLaw.nd rfl (Or.inl rfl) (pe_call D hr1 rfl mD kD bD .nil pass0 (pa_cons (pv 0) (pa_cons pe_int pa_nil))))
    (pss_cons (ps_set (i := 2) scLaw.nd rfl (Or.inl rfl) (pe_call Pk hr4 rfl mP kP bP .nil pass0 (pa_cons (pv 1) (pa_cons (pe_call Mo hr3 rfl mM kM bM .nil pass0 (pa_cons (pv 1) pa_nil)) pa_nil))))
    (pss_one (ps_ret (pe_and (peCallG R hr hgd rfl mR kR bR .nil pass0 (pa_cons (pv 1) (pa_cons (pv 2) pa_nil)))
      (pe_and (peCallG R hr hgd rfl mR kR bR .nil pass0 (pa_cons (pv 1) (pa_cons (pe_call Tw hr3 rfl mT kT bT .nil pass0 (pa_cons (pv 1) (pa_cons (pv 2) pa_nil))) pa_nil)))
      (pe_one (peCallG R hr hgd rfl mR kR bR .nil pass0 (pa_cons (pv 1) (pa_cons (pv 2) pa_nil))))))))), ?_⟩
  refine ⟨_, rfl, a, ns, rfl, hS, hl, fun dl cl H1 _ _ s1 D1 => ?_⟩
  have tb1 := tabsSame tb s1
  refine ⟨_, rfl, _, rfl, dl, cl, rfl, D1, fun m H2 m6 m40 D2 k2 => ?_⟩
  have tb2 := tabsKeep tb1 D1 k2
  refine ⟨dl, cl, m, dc dl cl, rfl, D2, D2.al, m6, m40, fun p h n r pp hs xs ns rs ps H3 pt ok D3 k3 => ?_⟩
  have tb3 := tabsKeep tb2 D2 k3
  refine ⟨_, rfl, _, rfl, dl, cl, p, h, n, r, pp, hs, xs, ns, rs, ps, ⟨D3, tb3⟩, rfl, pt, ok, fun H4 j4 k4' => ⟨_, rfl, iteT ?_⟩⟩
  have D4 := j4.1
  have tb4 := j4.2
  have k4 : KT dl cl H3 H4 := ktKs (q := qStr) (Pt := Pt) ⟨D3, tb3⟩ k4'
  refine ⟨_, rfl, _, rfl, _, rfl, dl, cl, p, h, n, r, pp, dc dl cl, hs, xs, ns, rs, ps, rfl, D4, D4.al, .inl rfl, .inr rfl, pt.kt k4, ok, fun p2 h2 n2 r2 pp2 xs2 ns2 rs2 ps2 H5 pt2 ok2 D5 k5 => ?_⟩
  have tb5 := tabsKeep tb4 D4 k5
  refine ⟨dl, cl, p2, h2, n2, r2, pp2, hs, xs2, ns2, rs2, ps2, ⟨D5, tb5⟩, rfl, pt2, ok2, fun H6 j6 k6' => ⟨_, rfl, iteT ?_⟩⟩
  have k6 : KT dl cl H5 H6 := ktKs (q := qStr) (Pt := Pt) ⟨D5, tb5⟩ k6'
  exact ⟨_, rfl, _, rfl, dl, cl, p, h, n, r, pp, hs, xs, ns, rs, ps, j6, rfl, pt.kt ((k4.trans (KT.of k5)).trans k6), ok, fun H7 _ _ => q H7⟩
/-! ### the head -/
def fnT0 : List He.DefD := [dOf "is_sequence" (top 7), dOf "is_name" (top 8), dOf "is_known" (top 9), dOf "rises" (top 10), dOf "is_lot_of" (top 11), dOf "are_hands" (top 17), dOf "is_note" (top 18), dOf "are_ready" (top 19), dOf "is_paper" (top 20), dOf "under_masks" (top 21), dOf "joined_mask" (top 22), dOf "rows_by_hand" (top 23), dOf "next_table" (top 24), dOf "first_above" (top 25), dOf "_need_parts" (top 28), dOf "hand_number" (top 29), dOf "note_number" (top 30), dOf "mask_lot" (top 31), dOf "key_level" (top 32), dOf "hand_of" (top 33), dOf "notes_of" (top 34), dOf "lies_under" (top 35), dOf "under_of" (top 36), dOf "whole_paper" (top 37), dOf "key_note" (top 38), dOf "ready_note" (top 39), dOf "closure_of" (top 41), dOf "_law_heap" (top 43), dOf "_law_draw" (top 44), dOf "_law_pick" (top 45), dOf "_law_mixed" (top 46), dOf "_law_names" (top 47), dOf "_law_unders" (top 48), dOf "_law_notes" (top 49), dOf "_law_pact" (top 50), dOf "_law_most" (top 51)]
def fnT1 : List He.DefD := [dOf "_law_none" (top 52), dOf "_law_twin" (top 53), dOf "_law_all" (top 54), dOf "_law_hands_right" (top 55), dOf "_law_pairs_right" (top 56), dOf "_law_lots_right" (top 57), dOf "_law_strangers_right" (top 58), dOf "_law_right" (top 59), dOf "law" (top 60), mOf "Pact" "__init__" "Pact.__init__" sInit, mOf "NoName" "__init__" "NoName.__init__" (inClass (top 3) 0)]
def fnT : List He.DefD := fnT0 ++ fnT1
def faT0 : List He.Fa := [.glo "is_sequence", .glo "is_name", .glo "is_known", .glo "rises", .glo "is_lot_of", .glo "are_hands", .glo "is_note", .glo "are_ready", .glo "is_paper", .glo "under_masks", .glo "joined_mask", .glo "rows_by_hand", .glo "next_table", .glo "first_above", .glo "_need_parts", .glo "hand_number", .glo "note_number", .glo "mask_lot", .glo "key_level", .glo "hand_of", .glo "notes_of", .glo "lies_under", .glo "under_of", .glo "whole_paper", .glo "key_note", .glo "ready_note", .glo "closure_of", .glo "_law_heap", .glo "_law_draw", .glo "_law_pick", .glo "_law_mixed", .glo "_law_names", .glo "_law_unders", .glo "_law_notes", .glo "_law_pact", .glo "_law_most"]
def faT1 : List He.Fa := [.glo "_law_none", .glo "_law_twin", .glo "_law_all", .glo "_law_hands_right", .glo "_law_pairs_right", .glo "_law_lots_right", .glo "_law_strangers_right", .glo "_law_right", .glo "law", .glo "Pact", .glo "NoName", .mkr "Pact", .cls "Pact", .noat "Pact" "hands", .noat "Pact" "notes", .noat "Pact" "ready", .noat "Pact" "paper", .noat "Pact" "names", .noat "Pact" "note_numbers", .noat "Pact" "hand_numbers", .noat "Pact" "rows", .noat "Pact" "row_masks", .noat "Pact" "unders", .noat "Pact" "nexts", .noat "Pact" "whole", .noat "Pact" "by_name", .free "list", .free "range", .free "len", .free "int", .free "tuple", .free "set", .free "sorted", .free "max", .free "abs", .free "enumerate"]
def faT2 : List He.Fa := [.free "isinstance", .free "str", .free "all", .free "zip", .free "repr", .free "sum", .int "LONGEST_NAME" 8, .int "FEWEST_HANDS" 2, .int "MOST_HANDS" 6, .int "FEWEST_NOTES" 2, .int "MOST_NOTES" 40, .str "LETTERS" "abcdefghijklmnopqrstuvwxyz"]
def faT : List He.Fa := faT0 ++ faT1 ++ faT2
abbrev R4 : PySem.W.OpenRow := PySem.W.OpenLaw.row PySem.Challenge.rw_boundorvoid_k02_what_lies_under
abbrev exT4 (K : PySem.W.Frag) : Bool := errB K (He.ga K "NoName") "name"
abbrev tfT : List He.Defn := [("_law_strangers_right", none)]
abbrev hk : PySem.W.Hook := He.hookX 5 faT fnT [] tfT exT4
def ob (s : PySem.W.SharedT) : He.AlX := He.obsX 5 faT fnT [] tfT exT4 (HandSHeadRun.getT s)
theorem ob_eq (s : PySem.W.SharedT) : ob s = hk.obs s.abs := He.obsX_eq (HandSHeadRun.getT_eq s)
def looseT0 : List PySem.Str := [("PactError" : PySem.Str), ("InvalidPact" : PySem.Str), ("NoName" : PySem.Str), ("LETTERS" : PySem.Str), ("LONGEST_NAME" : PySem.Str), ("is_sequence" : PySem.Str), ("is_name" : PySem.Str), ("is_known" : PySem.Str), ("rises" : PySem.Str), ("is_lot_of" : PySem.Str), ("FEWEST_HANDS" : PySem.Str), ("MOST_HANDS" : PySem.Str), ("FEWEST_NOTES" : PySem.Str), ("MOST_NOTES" : PySem.Str), ("are_hands" : PySem.Str), ("is_note" : PySem.Str), ("are_ready" : PySem.Str), ("is_paper" : PySem.Str), ("under_masks" : PySem.Str), ("joined_mask" : PySem.Str), ("rows_by_hand" : PySem.Str), ("next_table" : PySem.Str), ("first_above" : PySem.Str), ("Pact" : PySem.Str), ("_need_parts" : PySem.Str), ("hand_number" : PySem.Str), ("note_number" : PySem.Str), ("mask_lot" : PySem.Str), ("key_level" : PySem.Str), ("hand_of" : PySem.Str), ("notes_of" : PySem.Str), ("lies_under" : PySem.Str), ("under_of" : PySem.Str), ("whole_paper" : PySem.Str), ("key_note" : PySem.Str), ("ready_note" : PySem.Str)]
def looseT1 : List PySem.Str := [("closure_of" : PySem.Str), ("_law_heap" : PySem.Str), ("_law_draw" : PySem.Str), ("_law_pick" : PySem.Str), ("_law_mixed" : PySem.Str), ("_law_names" : PySem.Str), ("_law_unders" : PySem.Str), ("_law_notes" : PySem.Str), ("_law_pact" : PySem.Str), ("_law_most" : PySem.Str), ("_law_none" : PySem.Str), ("_law_twin" : PySem.Str), ("_law_all" : PySem.Str), ("_law_hands_right" : PySem.Str), ("_law_pairs_right" : PySem.Str), ("_law_lots_right" : PySem.Str), ("_law_strangers_right" : PySem.Str), ("_law_right" : PySem.Str)]
def looseT : List PySem.Str := looseT0 ++ looseT1
abbrev qv : Program := PySem.W.view R4.prog [60]
theorem run4 (w : World) : HandSHeadRun.RunEq R4 qv hk ob 6000 looseT w := by
  intro os
  kernel_rfl
/-! ### each def by the head -/
section
variable {P : Program} {w : World} {K : PySem.W.Frag} {mg : Str → Option Value} {base h : Heap} {fa : List He.Fa} {fn : List He.DefD}
theorem dnOf {k : Nat} {x : Str} {st : Stmt} {ps : List Str} {sp : Sp} (X : K.In h) (G : h.Ns mainGlobals mg) (c : He.SaysD fa fn K) (i j : Nat) (hi : fn[i]? = some (dOf x st)) (hj : fa[j]? = some (.glo x))
    (ok : ∀ {f : Addr} {fd : FuncData}, Fun K x x st f fd → FnOk P w K mg base CX0 k f fd ps sp)
    (b : ∀ (kV doc pm : Value) (an : Option Addr) (cdv ct : Value) (us : List Value), us.length = ps.length → bindArgs (PySem.W.fnOf x x (defArgs st) (defBody st) (defScope st) .none kV doc pm an cdv ct) ⟨us, []⟩ = pure (ps.zip us)) : Dn P w K mg base k x ps sp := by
  obtain ⟨fd, F⟩ := c.def_ i hi
  have F := funOf F
  exact ⟨_, fd, ok F, F.kp, F.binds b, He.glo_ok X G (c.fact j hj)⟩
end
theorem facts {P : Program} {w : World} {K : PySem.W.Frag} {h : Heap} {mg : Str → Option Value} {f : Addr} (X : K.In h) (G : h.Ns mainGlobals mg) (hfa : mg ("law" : Str) = some (.ref f)) (sx : He.SaysX faT fnT [] tfT exT4 w h K) :
    ∃ (fd : FuncData) (cs : List (Addr × Addr)) (sp : Sp), TabsAt K h cs ∧ (∀ (s : Shared) (u : Value), BindsTo s fd ⟨[u], []⟩ [("script", u)]) ∧
      (∀ (H : Hp) (a : Addr) (ns : List Int), ns.length ≤ 63 → (∀ p ∈ cs, H p.2 = some (.tbl #[])) → SqL K H a (ns.map V.int) → sp [.ref a] H (fun v _ => v = .bl true) fun _ _ _ => False) ∧
      ∀ base : Heap, K.In base → base.Ns mainGlobals mg → (∀ p ∈ cs, LamX.TabB base mg p.1 p.2) → FnG P w K mg base CX0 9 f fd ["script"] sp := by
  have c : He.SaysD faT fnT K := sx.t.d
  have er := errB_ok sx.more
  obtain ⟨fdL, FL⟩ := c.def_ 44 (d := dOf "law" (top 60)) rfl
  have FL := funOf (x := "law") (q := "law") (st := top 60) (f := He.ga K "law") FL
  have eL := hfa.symm.trans (He.glo_ok X G (c.fact 44 (f := .glo "law") rfl))
  cases eL
  obtain ⟨fdR, FR⟩ := c.def_ 42 (d := dOf "_law_strangers_right" (top 58)) rfl
  have FR := funOf (x := "_law_strangers_right") (q := "_law_strangers_right") (st := top 58) (f := He.ga K "_law_strangers_right") FR
  obtain ⟨oc, od, kV, doc, pm, an, cdv, ct, osl, rfl, lkR, hcdR⟩ := FR.ex
  obtain ⟨cc, rfl⟩ := He.codeIn_ref hcdR
  have ec : He.codeOf K ("_law_strangers_right", none) = cc := He.codeOf_eq (p := ("_law_strangers_right", none)) lkR rfl
  obtain ⟨fdN, FN⟩ := c.def_ 36 (d := dOf "_law_none" (top 52)) rfl
  have FN := funOf (x := "_law_none") (q := "_law_none") (st := top 52) (f := He.ga K "_law_none") FN
  have bL := FL.binds (ps := ["script"]) (fun _ _ _ _ _ _ us hl => match us, hl with | [_], _ => rfl)
  have bR := FR.binds (ps := ["heap", "pact", "hands", "names"]) (fun _ _ _ _ _ _ us hl => match us, hl with | [_, _, _, _], _ => rfl)
  have bN := FN.binds (ps := ["work"]) (fun _ _ _ _ _ _ us hl => match us, hl with | [_], _ => rfl)
  obtain ⟨oc2, od2, kV2, doc2, pm2, an2, cdv2, ct2, osl2, rfl, lk2, hcd2⟩ := FN.ex
  obtain ⟨ocL, odL, kVL, docL, pmL, anL, cdvL, ctL, oslL, efdL, _, _⟩ := FL.ex
  refine ⟨fdL, [He.cT K ("_law_strangers_right", none)], spLaw K (He.cT K ("_law_strangers_right", none)).2, ⟨fun p hp => ?_, fun p hp => ?_, fun p hp => ?_⟩, fun s u => ?_, fun H a ns hl hT hS => ?_, fun base kb gb tb => ?_⟩
  · rw [List.mem_singleton.mp hp]
    exact sx.empty _ List.mem_cons_self
  · rw [List.mem_singleton.mp hp]
    exact sx.out _ List.mem_cons_self
  · rw [List.mem_singleton.mp hp]
    exact PySem.W.codeHd_of_K X (sx.hd _ List.mem_cons_self)
  · subst efdL
    exact .of_eq rfl
  · exact ⟨a, ns, rfl, fun p hp => by
      rw [List.mem_singleton.mp hp]
      exact TabS.nil (hT _ List.mem_cons_self), hS, hl, fun _ => rfl⟩
  · have TBq := tb _ (List.mem_cons_self)
    have z_list := He.free_ok X G (c.fact 62 (f := .free "list") rfl)
    have z_range := He.free_ok X G (c.fact 63 (f := .free "range") rfl)
    have z_len := He.free_ok X G (c.fact 64 (f := .free "len") rfl)
    have z_int := He.free_ok X G (c.fact 65 (f := .free "int") rfl)
    have z_tuple := He.free_ok X G (c.fact 66 (f := .free "tuple") rfl)
    have z_set := He.free_ok X G (c.fact 67 (f := .free "set") rfl)
    have z_sorted := He.free_ok X G (c.fact 68 (f := .free "sorted") rfl)
    have z_max := He.free_ok X G (c.fact 69 (f := .free "max") rfl)
    have z_abs := He.free_ok X G (c.fact 70 (f := .free "abs") rfl)
    have z_enumerate := He.free_ok X G (c.fact 71 (f := .free "enumerate") rfl)
    have z_isinstance := He.free_ok X G (c.fact 72 (f := .free "isinstance") rfl)
    have z_str := He.free_ok X G (c.fact 73 (f := .free "str") rfl)
    have z_all := He.free_ok X G (c.fact 74 (f := .free "all") rfl)
    have z_zip := He.free_ok X G (c.fact 75 (f := .free "zip") rfl)
    have z_repr := He.free_ok X G (c.fact 76 (f := .free "repr") rfl)
    have z_sum := He.free_ok X G (c.fact 77 (f := .free "sum") rfl)
    have c_LONGEST_NAME := He.int_ok X G (c.fact 78 (f := .int "LONGEST_NAME" 8) rfl)
    have c_FEWEST_HANDS := He.int_ok X G (c.fact 79 (f := .int "FEWEST_HANDS" 2) rfl)
    have c_MOST_HANDS := He.int_ok X G (c.fact 80 (f := .int "MOST_HANDS" 6) rfl)
    have c_FEWEST_NOTES := He.int_ok X G (c.fact 81 (f := .int "FEWEST_NOTES" 2) rfl)
    have c_MOST_NOTES := He.int_ok X G (c.fact 82 (f := .int "MOST_NOTES" 40) rfl)
    have c_LETTERS := He.str_ok X G (c.fact 83 (f := .str "LETTERS" "abcdefghijklmnopqrstuvwxyz") rfl)
    have gPact := He.glo_ok X G (c.fact 45 (f := .glo "Pact") rfl)
    have gNo := He.glo_ok X G (c.fact 46 (f := .glo "NoName") rfl)
    have MkP := He.mkr_ok (c.fact 47 (f := .mkr "Pact") rfl)
    have T : PcK K (He.ga K "Pact") := ⟨He.cls_ok (c.fact 48 (f := .cls "Pact") rfl), He.noat_ok (c.fact 49 (f := .noat "Pact" "hands") rfl), He.noat_ok (c.fact 50 (f := .noat "Pact" "notes") rfl), He.noat_ok (c.fact 51 (f := .noat "Pact" "ready") rfl), He.noat_ok (c.fact 52 (f := .noat "Pact" "paper") rfl), He.noat_ok (c.fact 53 (f := .noat "Pact" "names") rfl), He.noat_ok (c.fact 54 (f := .noat "Pact" "note_numbers") rfl), He.noat_ok (c.fact 55 (f := .noat "Pact" "hand_numbers") rfl), He.noat_ok (c.fact 56 (f := .noat "Pact" "rows") rfl), He.noat_ok (c.fact 57 (f := .noat "Pact" "row_masks") rfl), He.noat_ok (c.fact 58 (f := .noat "Pact" "unders") rfl), He.noat_ok (c.fact 59 (f := .noat "Pact" "nexts") rfl), He.noat_ok (c.fact 60 (f := .noat "Pact" "whole") rfl), He.noat_ok (c.fact 61 (f := .noat "Pact" "by_name") rfl)⟩
    have dSeq : Dn P w K mg base 1 "is_sequence" ["value"] (spSeq K) := dnOf X G c 0 0 rfl rfl (fun F => ok_seq F z_isinstance z_list z_tuple) (fun _ _ _ _ _ _ us hl => match us, hl with | [_], _ => rfl)
    have dName : Dn P w K mg base 1 "is_name" ["value"] spName := dnOf X G c 1 1 rfl rfl (fun F => ok_name F z_isinstance z_str z_len z_all c_LONGEST_NAME c_LETTERS) (fun _ _ _ _ _ _ us hl => match us, hl with | [_], _ => rfl)
    have dKnown : Dn P w K mg base 1 "is_known" ["value", "known"] (spKnown K) := dnOf X G c 2 2 rfl rfl (fun F => ok_known F z_isinstance z_str) (fun _ _ _ _ _ _ us hl => match us, hl with | [_, _], _ => rfl)
    have dRises : Dn P w K mg base 1 "rises" ["things"] (spRises K) := dnOf X G c 3 3 rfl rfl (fun F => ok_rises F z_all z_zip) (fun _ _ _ _ _ _ us hl => match us, hl with | [_], _ => rfl)
    have dLot : Dn P w K mg base 2 "is_lot_of" ["value", "known"] (spLot K) := dnOf X G c 4 4 rfl rfl (fun F => ok_lot F dKnown dRises z_isinstance z_tuple z_all) (fun _ _ _ _ _ _ us hl => match us, hl with | [_, _], _ => rfl)
    have dHands : Dn P w K mg base 2 "are_hands" ["value"] (spHands K) := dnOf X G c 5 5 rfl rfl (fun F => ok_hands F dSeq dName z_len z_all z_set c_FEWEST_HANDS c_MOST_HANDS) (fun _ _ _ _ _ _ us hl => match us, hl with | [_], _ => rfl)
    have dNote : Dn P w K mg base 3 "is_note" ["value", "hands", "owners"] (spNote K) := dnOf X G c 6 6 rfl rfl (fun F => ok_note F dName dKnown dLot z_isinstance z_tuple z_len) (fun _ _ _ _ _ _ us hl => match us, hl with | [_, _, _], _ => rfl)
    have dReady : Dn P w K mg base 2 "are_ready" ["value", "hands", "owners"] (spReady K) := dnOf X G c 7 7 rfl rfl (fun F => ok_ready F dSeq dKnown z_len z_all z_zip) (fun _ _ _ _ _ _ us hl => match us, hl with | [_, _, _], _ => rfl)
    have dJoined : Dn P w K mg base 1 "joined_mask" ["masks", "numbers"] (spJoined K) := dnOf X G c 10 10 rfl rfl (fun F => ok_joined F) (fun _ _ _ _ _ _ us hl => match us, hl with | [_, _], _ => rfl)
    have dMasks : Dn P w K mg base 2 "under_masks" ["notes"] (spMasks K) := dnOf X G c 9 9 rfl rfl (fun F => ok_masks F dJoined z_enumerate z_tuple) (fun _ _ _ _ _ _ us hl => match us, hl with | [_], _ => rfl)
    have dPaper : Dn P w K mg base 3 "is_paper" ["value", "hands", "notes"] (spPaper K) := dnOf X G c 8 8 rfl rfl (fun F => ok_paper F dLot dJoined dMasks z_enumerate z_all) (fun _ _ _ _ _ _ us hl => match us, hl with | [_, _, _], _ => rfl)
    have dRows : Dn P w K mg base 1 "rows_by_hand" ["hands", "notes"] (spRows K) := dnOf X G c 11 11 rfl rfl (fun F => ok_rows F z_enumerate z_tuple) (fun _ _ _ _ _ _ us hl => match us, hl with | [_, _], _ => rfl)
    have dFirst : Dn P w K mg base 1 "first_above" ["row", "masks", "number"] (spFirst K) := dnOf X G c 13 13 rfl rfl (fun F => ok_first F z_enumerate z_len) (fun _ _ _ _ _ _ us hl => match us, hl with | [_, _, _], _ => rfl)
    have dNexts : Dn P w K mg base 2 "next_table" ["rows", "masks"] (spNexts K) := dnOf X G c 12 12 rfl rfl (fun F => ok_nexts F dFirst z_range z_len z_tuple) (fun _ _ _ _ _ _ us hl => match us, hl with | [_, _], _ => rfl)
    have dNeed : Dn P w K mg base 4 "_need_parts" ["hands", "notes", "ready", "paper"] (spNeed K) := dnOf X G c 14 14 rfl rfl (fun F => ok_need F dHands dSeq dNote dReady dPaper z_enumerate z_len c_FEWEST_NOTES c_MOST_NOTES) (fun _ _ _ _ _ _ us hl => match us, hl with | [_, _, _, _], _ => rfl)
    have dDeal : Dn P w K mg base 1 "_law_heap" ["script", "base"] (spDeal K) := dnOf X G c 27 27 rfl rfl (fun F => ok_deal F z_int z_abs) (fun _ _ _ _ _ _ us hl => match us, hl with | [_, _], _ => rfl)
    have dDraw : Dn P w K mg base 1 "_law_draw" ["heap", "many"] spAny := dnOf X G c 28 28 rfl rfl (fun F => ok_any F z_int) (fun _ _ _ _ _ _ us hl => match us, hl with | [_, _], _ => rfl)
    obtain ⟨gDr, gdDr, GDr, kDr, bDr, mDr⟩ := dDraw.ex
    have dPick : Dn P w K mg base 2 "_law_pick" ["heap", "some"] spOf := dnOf X G c 29 29 rfl rfl (fun F => ok_of F GDr kDr bDr mDr z_len) (fun _ _ _ _ _ _ us hl => match us, hl with | [_, _], _ => rfl)
    have dMixed : Dn P w K mg base 2 "_law_mixed" ["heap", "some"] (spMixed K) := dnOf X G c 30 30 rfl rfl (fun F => ok_mixed F dDraw z_list z_range z_len) (fun _ _ _ _ _ _ us hl => match us, hl with | [_, _], _ => rfl)
    have dNames : Dn P w K mg base 3 "_law_names" ["heap", "many"] spNames := dnOf X G c 31 31 rfl rfl (fun F => ok_names F dDraw dPick dMixed z_range z_len z_int) (fun _ _ _ _ _ _ us hl => match us, hl with | [_, _], _ => rfl)
    have dUnders : Dn P w K mg base 1 "_law_unders" ["notes"] (spUnders K) := dnOf X G c 32 32 rfl rfl (fun F => ok_unders F z_list) (fun _ _ _ _ _ _ us hl => match us, hl with | [_], _ => rfl)
    have dNotes : Dn P w K mg base 3 "_law_notes" ["heap", "hands", "names"] (spNotes K) := dnOf X G c 33 33 rfl rfl (fun F => ok_notes F dDraw dPick dMixed z_range z_len z_int z_tuple z_set z_sorted) (fun _ _ _ _ _ _ us hl => match us, hl with | [_, _, _], _ => rfl)
    have dPact : Dn P w K mg base 4 "_law_pact" ["heap", "most"] spPact := dnOf X G c 34 34 rfl rfl (fun F => ok_pact F dDraw dPick dMixed dNames dNotes dUnders z_len z_tuple z_set z_sorted) (fun _ _ _ _ _ _ us hl => match us, hl with | [_, _], _ => rfl)
    have dMost : Dn P w K mg base 3 "_law_most" ["heap"] spMost := dnOf X G c 35 35 rfl rfl (fun F => ok_most F dPick) (fun _ _ _ _ _ _ us hl => match us, hl with | [_], _ => rfl)
    have dTwin : Dn P w K mg base 3 "_law_twin" ["heap", "parts"] spTwin := dnOf X G c 37 37 rfl rfl (fun F => ok_twin F dDraw dPick z_range z_len z_tuple z_max z_sorted) (fun _ _ _ _ _ _ us hl => match us, hl with | [_, _], _ => rfl)
    have dUnders0 : Dn P w K mg base 1 "_law_unders" ["notes"] (spUnders0 K) := dnOf X G c 32 32 rfl rfl (fun F => ok_unders0 F z_list) (fun _ _ _ _ _ _ us hl => match us, hl with | [_], _ => rfl)
    -- the error
    obtain ⟨fdE, FE⟩ := c.def_ 46 (d := mOf "NoName" "__init__" "NoName.__init__" (inClass (top 3) 0)) rfl
    have FE := funOf (x := "__init__") (q := "NoName.__init__") (st := inClass (top 3) 0) (f := He.ma K (He.ga K "NoName") "__init__") FE
    obtain ⟨ocE, odE, kVE, docE, pmE, anE, cdvE, ctE, oslE, rfl, lkE, hcdE⟩ := FE.ex
    have M : ExM P w K mg base (He.ga K "NoName") "name" keB "NoName" := ⟨er.ec, er.no, gNo, _, _, er.ini, er.fn, okIni FE er.ec er.no ⟨rfl, rfl, rfl, by decide +kernel, rfl, by decide +kernel, by decide +kernel⟩ rfl rfl rfl (Or.inl rfl) (Or.inl rfl) rfl, fun s me u => .of_eq rfl, fun s me u => .of_eq rfl⟩
    -- the pact
    obtain ⟨fdI, FI⟩ := c.def_ 45 (d := mOf "Pact" "__init__" "Pact.__init__" sInit) rfl
    have FI := funOf (x := "__init__") (q := "Pact.__init__") (st := sInit) (f := He.ma K (He.ga K "Pact") "__init__") FI
    have bI := FI.binds (ps := ["self", "hands", "notes", "ready", "paper"]) (fun _ _ _ _ _ _ us hl => match us, hl with | [_, _, _, _, _], _ => rfl)
    have GI := ok_init (P := P) (w := w) (mg := mg) (base := base) T FI dNeed dRows dMasks dNexts dJoined z_enumerate z_tuple z_sum z_sorted
    -- what k02 asks besides
    obtain ⟨fdNu, FNu⟩ := c.def_ 16 (d := dOf "note_number" (top 30)) rfl
    have FNu := funOf (x := "note_number") (q := "note_number") (st := top 30) (f := He.ga K "note_number") FNu
    have bNu := FNu.binds (ps := ["pact", "note"]) (fun _ _ _ _ _ _ us hl => match us, hl with | [_, _], _ => rfl)
    have mNu := He.glo_ok X G (c.fact 16 (f := .glo "note_number") rfl)
    obtain ⟨fdHn, FHn⟩ := c.def_ 15 (d := dOf "hand_number" (top 29)) rfl
    have FHn := funOf (x := "hand_number") (q := "hand_number") (st := top 29) (f := He.ga K "hand_number") FHn
    have bHn := FHn.binds (ps := ["pact", "hand"]) (fun _ _ _ _ _ _ us hl => match us, hl with | [_, _], _ => rfl)
    have mHn := He.glo_ok X G (c.fact 15 (f := .glo "hand_number") rfl)
    obtain ⟨fdMl, FMl⟩ := c.def_ 17 (d := dOf "mask_lot" (top 31)) rfl
    have FMl := funOf (x := "mask_lot") (q := "mask_lot") (st := top 31) (f := He.ga K "mask_lot") FMl
    have bMl := FMl.binds (ps := ["pact", "mask"]) (fun _ _ _ _ _ _ us hl => match us, hl with | [_, _], _ => rfl)
    have mMl := He.glo_ok X G (c.fact 17 (f := .glo "mask_lot") rfl)
    obtain ⟨fdKl, FKl⟩ := c.def_ 18 (d := dOf "key_level" (top 32)) rfl
    have FKl := funOf (x := "key_level") (q := "key_level") (st := top 32) (f := He.ga K "key_level") FKl
    have bKl := FKl.binds (ps := ["pact", "number"]) (fun _ _ _ _ _ _ us hl => match us, hl with | [_, _], _ => rfl)
    have mKl := He.glo_ok X G (c.fact 18 (f := .glo "key_level") rfl)
    obtain ⟨fdHo, FHo⟩ := c.def_ 19 (d := dOf "hand_of" (top 33)) rfl
    have FHo := funOf (x := "hand_of") (q := "hand_of") (st := top 33) (f := He.ga K "hand_of") FHo
    have bHo := FHo.binds (ps := ["pact", "note"]) (fun _ _ _ _ _ _ us hl => match us, hl with | [_, _], _ => rfl)
    have mHo := He.glo_ok X G (c.fact 19 (f := .glo "hand_of") rfl)
    obtain ⟨fdNo, FNo⟩ := c.def_ 20 (d := dOf "notes_of" (top 34)) rfl
    have FNo := funOf (x := "notes_of") (q := "notes_of") (st := top 34) (f := He.ga K "notes_of") FNo
    have bNo := FNo.binds (ps := ["pact", "hand"]) (fun _ _ _ _ _ _ us hl => match us, hl with | [_, _], _ => rfl)
    have mNo := He.glo_ok X G (c.fact 20 (f := .glo "notes_of") rfl)
    obtain ⟨fdUo, FUo⟩ := c.def_ 22 (d := dOf "under_of" (top 36)) rfl
    have FUo := funOf (x := "under_of") (q := "under_of") (st := top 36) (f := He.ga K "under_of") FUo
    have bUo := FUo.binds (ps := ["pact", "note"]) (fun _ _ _ _ _ _ us hl => match us, hl with | [_, _], _ => rfl)
    have mUo := He.glo_ok X G (c.fact 22 (f := .glo "under_of") rfl)
    obtain ⟨fdWp, FWp⟩ := c.def_ 23 (d := dOf "whole_paper" (top 37)) rfl
    have FWp := funOf (x := "whole_paper") (q := "whole_paper") (st := top 37) (f := He.ga K "whole_paper") FWp
    have bWp := FWp.binds (ps := ["pact"]) (fun _ _ _ _ _ _ us hl => match us, hl with | [_], _ => rfl)
    have mWp := He.glo_ok X G (c.fact 23 (f := .glo "whole_paper") rfl)
    obtain ⟨fdKn, FKn⟩ := c.def_ 24 (d := dOf "key_note" (top 38)) rfl
    have FKn := funOf (x := "key_note") (q := "key_note") (st := top 38) (f := He.ga K "key_note") FKn
    have bKn := FKn.binds (ps := ["pact", "hand"]) (fun _ _ _ _ _ _ us hl => match us, hl with | [_, _], _ => rfl)
    have mKn := He.glo_ok X G (c.fact 24 (f := .glo "key_note") rfl)
    obtain ⟨fdRn, FRn⟩ := c.def_ 25 (d := dOf "ready_note" (top 39)) rfl
    have FRn := funOf (x := "ready_note") (q := "ready_note") (st := top 39) (f := He.ga K "ready_note") FRn
    have bRn := FRn.binds (ps := ["pact", "hand"]) (fun _ _ _ _ _ _ us hl => match us, hl with | [_, _], _ => rfl)
    have mRn := He.glo_ok X G (c.fact 25 (f := .glo "ready_note") rfl)
    obtain ⟨fdCo, FCo⟩ := c.def_ 26 (d := dOf "closure_of" (top 41)) rfl
    have FCo := funOf (x := "closure_of") (q := "closure_of") (st := top 41) (f := He.ga K "closure_of") FCo
    have bCo := FCo.binds (ps := ["pact", "lot"]) (fun _ _ _ _ _ _ us hl => match us, hl with | [_, _], _ => rfl)
    have mCo := He.glo_ok X G (c.fact 26 (f := .glo "closure_of") rfl)
    obtain ⟨fdLu, FLu⟩ := c.def_ 21 (d := dOf "lies_under" (top 35)) rfl
    have FLu := funOf (x := "lies_under") (q := "lies_under") (st := top 35) (f := He.ga K "lies_under") FLu
    have bLu := FLu.binds (ps := ["pact", "one", "other"]) (fun _ _ _ _ _ _ us hl => match us, hl with | [_, _, _], _ => rfl)
    have mLu := He.glo_ok X G (c.fact 21 (f := .glo "lies_under") rfl)
    obtain ⟨fdAl, FAl⟩ := c.def_ 38 (d := dOf "_law_all" (top 54)) rfl
    have FAl := funOf (x := "_law_all") (q := "_law_all") (st := top 54) (f := He.ga K "_law_all") FAl
    have bAl := FAl.binds (ps := ["below", "lot"]) (fun _ _ _ _ _ _ us hl => match us, hl with | [_, _], _ => rfl)
    have mAl := He.glo_ok X G (c.fact 38 (f := .glo "_law_all") rfl)
    obtain ⟨fdHr, FHr⟩ := c.def_ 39 (d := dOf "_law_hands_right" (top 55)) rfl
    have FHr := funOf (x := "_law_hands_right") (q := "_law_hands_right") (st := top 55) (f := He.ga K "_law_hands_right") FHr
    have bHr := FHr.binds (ps := ["pact", "hands", "notes", "ready", "whole"]) (fun _ _ _ _ _ _ us hl => match us, hl with | [_, _, _, _, _], _ => rfl)
    have mHr := He.glo_ok X G (c.fact 39 (f := .glo "_law_hands_right") rfl)
    obtain ⟨fdPr, FPr⟩ := c.def_ 40 (d := dOf "_law_pairs_right" (top 56)) rfl
    have FPr := funOf (x := "_law_pairs_right") (q := "_law_pairs_right") (st := top 56) (f := He.ga K "_law_pairs_right") FPr
    have bPr := FPr.binds (ps := ["heap", "pact", "names", "below"]) (fun _ _ _ _ _ _ us hl => match us, hl with | [_, _, _, _], _ => rfl)
    have mPr := He.glo_ok X G (c.fact 40 (f := .glo "_law_pairs_right") rfl)
    obtain ⟨fdLt, FLt⟩ := c.def_ 41 (d := dOf "_law_lots_right" (top 57)) rfl
    have FLt := funOf (x := "_law_lots_right") (q := "_law_lots_right") (st := top 57) (f := He.ga K "_law_lots_right") FLt
    have bLt := FLt.binds (ps := ["heap", "pact", "names", "below"]) (fun _ _ _ _ _ _ us hl => match us, hl with | [_, _, _, _], _ => rfl)
    have mLt := He.glo_ok X G (c.fact 41 (f := .glo "_law_lots_right") rfl)
    obtain ⟨fdPi, FPi⟩ := c.def_ 29 (d := dOf "_law_pick" (top 45)) rfl
    have FPi := funOf (x := "_law_pick") (q := "_law_pick") (st := top 45) (f := He.ga K "_law_pick") FPi
    have bPi := FPi.binds (ps := ["heap", "some"]) (fun _ _ _ _ _ _ us hl => match us, hl with | [_, _], _ => rfl)
    have mPi := He.glo_ok X G (c.fact 29 (f := .glo "_law_pick") rfl)
    obtain ⟨fdWr, FWr⟩ := c.def_ 43 (d := dOf "_law_right" (top 59)) rfl
    have FWr := funOf (x := "_law_right") (q := "_law_right") (st := top 59) (f := He.ga K "_law_right") FWr
    have bWr := FWr.binds (ps := ["heap", "parts"]) (fun _ _ _ _ _ _ us hl => match us, hl with | [_, _], _ => rfl)
    have mWr := He.glo_ok X G (c.fact 43 (f := .glo "_law_right") rfl)
    have X_Nu := numX (ok_nte (P := P) (w := w) (base := base) T M FNu)
    have X_Hn := hndX (ok_hnd (P := P) (w := w) (base := base) T M FHn)
    obtain ⟨gJm, gdJm, GJm, kJm, bJm, mJm⟩ := dJoined.ex
    have X_Ml := ok_ml (P := P) (w0 := w) (base := base) T FMl z_tuple
    have X_Kl := ok_kl (P := P) (w0 := w) (base := base) T FKl z_len
    have X_Ho := ok_ho (P := P) (w0 := w) (base := base) T FHo X_Nu FNu.kp bNu mNu
    have X_No := ok_no (P := P) (w0 := w) (base := base) T FNo X_Hn FHn.kp bHn mHn z_tuple
    have X_Uo := ok_uo (P := P) (w0 := w) (base := base) T FUo X_Nu FNu.kp bNu mNu X_Ml FMl.kp bMl mMl
    have X_Wp := ok_wp (P := P) (w0 := w) (base := base) T FWp X_Ml FMl.kp bMl mMl
    have X_Kn := ok_kn (P := P) (w0 := w) (base := base) T FKn X_Hn FHn.kp bHn mHn X_Kl FKl.kp bKl mKl
    have X_Rn := ok_rn (P := P) (w0 := w) (base := base) T FRn X_Hn FHn.kp bHn mHn
    have X_Co := ok_co (P := P) (w0 := w) (base := base) T FCo X_Nu FNu.kp bNu mNu X_Ml FMl.kp bMl mMl GJm kJm bJm mJm
    have X_Lu := ok_lu (P := P) (w0 := w) (base := base) T FLu X_Nu FNu.kp bNu mNu
    have A_Al := ok_all (P := P) (w := w) (base := base) FAl z_tuple z_sorted
    have A_Hr := ok_hr (P := P) (w0 := w) (base := base) T FHr (plainX X_No) FNo.kp bNo mNo (plainX X_Rn) FRn.kp bRn mRn (plainX X_Kn) FKn.kp bKn mKn X_Wp FWp.kp bWp mWp z_zip z_tuple z_repr
    have A_Pi := ok_pickD (P := P) (w := w) (base := base) FPi GDr kDr bDr mDr z_len
    have A_Dr := drD GDr
    have A_Pr := ok_prs (P := P) (w0 := w) (base := base) T FPr A_Pi FPi.kp bPi mPi (plainX X_Lu) FLu.kp bLu mLu z_range z_len z_repr
    have A_Lt := ok_lts (P := P) (w0 := w) (base := base) T FLt A_Pi FPi.kp bPi mPi A_Dr kDr bDr mDr (plainX X_Co) FCo.kp bCo mCo A_Al FAl.kp bAl mAl z_range z_tuple z_sorted z_set z_repr
    have kbLu : KBinds K fdLu ["pact", "one", "other"] ["other", "one", "pact"] (fun us ws => if us = [] then ws.reverse else []) (fun vs zs => if vs = [] then zs.reverse else []) := kb3 (by obtain ⟨_, _, _, _, _, _, _, _, _, rfl, _, _⟩ := FLu.ex; exact fun s a b c => .of_eq rfl)
    have kbHo : KBinds K fdHo ["pact", "note"] ["note", "pact"] (fun us ws => if us = [] then ws.reverse else []) (fun vs zs => if vs = [] then zs.reverse else []) := kb2 (by obtain ⟨_, _, _, _, _, _, _, _, _, rfl, _, _⟩ := FHo.ex; exact fun s a b => .of_eq rfl)
    have kbUo : KBinds K fdUo ["pact", "note"] ["note", "pact"] (fun us ws => if us = [] then ws.reverse else []) (fun vs zs => if vs = [] then zs.reverse else []) := kb2 (by obtain ⟨_, _, _, _, _, _, _, _, _, rfl, _, _⟩ := FUo.ex; exact fun s a b => .of_eq rfl)
    have kbCo : KBinds K fdCo ["pact", "lot"] ["lot", "pact"] (fun us ws => if us = [] then ws.reverse else []) (fun vs zs => if vs = [] then zs.reverse else []) := kb2 (by obtain ⟨_, _, _, _, _, _, _, _, _, rfl, _, _⟩ := FCo.ex; exact fun s a b => .of_eq rfl)
    have kbKn : KBinds K fdKn ["pact", "hand"] ["hand", "pact"] (fun us ws => if us = [] then ws.reverse else []) (fun vs zs => if vs = [] then zs.reverse else []) := kb2 (by obtain ⟨_, _, _, _, _, _, _, _, _, rfl, _, _⟩ := FKn.ex; exact fun s a b => .of_eq rfl)
    have kbNo : KBinds K fdNo ["pact", "hand"] ["hand", "pact"] (fun us ws => if us = [] then ws.reverse else []) (fun vs zs => if vs = [] then zs.reverse else []) := kb2 (by obtain ⟨_, _, _, _, _, _, _, _, _, rfl, _, _⟩ := FNo.ex; exact fun s a b => .of_eq rfl)
    have kbRn : KBinds K fdRn ["pact", "hand"] ["hand", "pact"] (fun us ws => if us = [] then ws.reverse else []) (fun vs zs => if vs = [] then zs.reverse else []) := kb2 (by obtain ⟨_, _, _, _, _, _, _, _, _, rfl, _, _⟩ := FRn.ex; exact fun s a b => .of_eq rfl)
    have kbWp : KBinds K fdWp ["pact"] ["pact"] (fun us ws => if us = [] then ws.reverse else []) (fun vs zs => if vs = [] then zs.reverse else []) := kb1 (by obtain ⟨_, _, _, _, _, _, _, _, _, rfl, _, _⟩ := FWp.ex; exact fun s a => .of_eq rfl)
    have TBc : LamX.TabB base mg cc (He.cT K ("_law_strangers_right", none)).2 := by
      have z : (He.cT K ("_law_strangers_right", none)).1 = cc := ec
      rw [← z]
      exact TBq
    have mSr := He.glo_ok X G (c.fact 42 (f := .glo "_law_strangers_right") rfl)
    have A_St := ok_str (P := P) (w0 := w) (base := base) lkR hcdR TBc lk2 hcd2 FN.kp (He.glo_ok X G (c.fact 36 (f := .glo "_law_none") rfl)) bN er.ec er.no gNo A_Pi FPi.kp bPi mPi X_Lu FLu.kp bLu mLu kbLu X_Uo FUo.kp bUo mUo X_Ho FHo.kp bHo mHo X_Co FCo.kp bCo mCo X_No FNo.kp bNo mNo X_Kn FKn.kp bKn mKn X_Rn FRn.kp bRn mRn z_tuple z_sorted z_set
    have R := ok_right (P := P) (w0 := w) (base := base) T FWr MkP gPact GI bI dUnders0 A_Al FAl.kp bAl mAl A_Hr FHr.kp bHr mHr A_Pr FPr.kp bPr mPr A_Lt FLt.kp bLt mLt A_St FR.kp bR mSr (plainX X_Ho) FHo.kp bHo mHo kbHo (plainX X_Uo) FUo.kp bUo mUo kbUo (plainX X_Co) FCo.kp bCo mCo kbCo X_Wp FWp.kp bWp mWp kbWp (plainX X_Kn) FKn.kp bKn mKn kbKn (plainX X_No) FNo.kp bNo mNo kbNo (plainX X_Rn) FRn.kp bRn mRn kbRn z_tuple z_sorted z_repr
    exact ok_law FL dDeal dMost dPact dTwin R FWr.kp bWr mWr

end L2.K2


open PySem PySem.W PySem.Calls PyProof.Rows
set_option maxRecDepth 100000 in
set_option maxHeartbeats 0 in
theorem PySem.Challenge.cw_boundorvoid_k02_what_lies_under_holds : PySem.Challenge.rw_boundorvoid_k02_what_lies_under.Holds := by
  w_on; o_law
  refine HandSHeadRun.head_any (r := L2.K2.R4) (q := L2.K2.qv) (H := L2.K2.hk) (ob := L2.K2.ob) (M := 6000) (loose := L2.K2.looseT) (d := HandSHeadRun.topDef L2.K2.R4.prog 60) (kwd := []) L2.K2.ob_eq
    (by kernel_rfl) (fun s => by kernel_rfl) L2.K2.run4 (by kernel_rfl) (by kernel_rfl) (by kernel_rfl) (by rfl) (by first | assumption | decide +kernel) (by decide +kernel) ⟨rfl, rfl, rfl, rfl, rfl, by decide +kernel⟩ ?hw ?hc
  case hw => w_witness2
  case hc =>
    refine L2.Bv.walkTG (l := PySem.Challenge.rw_boundorvoid_k02_what_lies_under) (n := 63) (k := 9) (x := "script") rfl (by decide) (by kernel_rfl) ⟨rfl, by decide, by decide⟩ ?F
    intro w mg fa h Y G hmg0
    obtain ⟨K, KX, c⟩ := Y
    have hmg : mg ("law" : PySem.Str) = some (.ref fa) := by
      have e : (HandSHeadRun.topDef L2.K2.R4.prog 60).name = ("law" : PySem.Str) := by kernel_rfl
      rw [← e]
      exact hmg0
    obtain ⟨fd, cs, sp, tb, hb, hsp, hF⟩ := L2.K2.facts (P := (PySem.Challenge.rw_boundorvoid_k02_what_lies_under).prog) (w := w) KX G hmg c
    exact ⟨K, fd, cs, sp, KX, tb, hb, hsp, hF⟩
