import PyProof.Rows.All
import Wide.All
import OpenK.AllK
import Wide.FinOn
import PyProof.EqAt
import PyProof.EqKinds
import PyProof.TupleCall
import PyProof.ReprRoads
import KE.KExcInit
import HandS.ForExc
import HandS.ExcInit
import HandS.ExcValue
import HandS.TryMany
import HandS.IsInst
import HandS.ExcIs
import HandS.Defaults
import HandS.Comp
import HandS.Iter
import HandS.Text
import HandS.Style
import HandS.Flow
import KE.KExcIs
import HandS.Walk
import PyProof.InstStoreFacts
import PySem.Challenge.RW_boundorvoid_k00_errors_and_what_they_kee
set_option Elab.async false
set_option linter.all false
set_option maxRecDepth 100000
set_option maxHeartbeats 4000000
namespace Bov
open PySem PySem.W PySem.Spec PySem.Calls PyProof.Rows PySem.HandSPX

section low
variable {pr : Program} {wd : World} {M : Model} {AA : Around} {EE : Value → Shared → Prop} {RR : Result → Shared → Prop} {hh : Heap} {gg : Array GenState} {dr : Drawn} {tt : Nat} {oss : OsState}
variable {nn qn : Str} {C N : Addr} {bs bm bmB : List Value} {hdct : Bool} {sn : List Str} {sub : List Value} {ab : Bool} {col : Option Bool} {dd : Option Addr} {k0 k1 k2 k3 k5 : Option Value} {B newId initId : String}

/-- the check ahead of the maker, whatever keywords -/
theorem chkNew (FB : ExcBaseFacts B newId initId bmB) (okB : bm.contains (.type B) = true) {vs : List Value} {kw : List (Str × Value)} {Q : Unit → Shared → Prop}
    (cl : hh.get? C = some (excClassObj nn qn C N bs bm hdct sn sub ab col dd k0 k1 k2 k3 k5 newId)) (fin : Q () ⟨hh, gg, dr, tt, oss⟩) :
    wpAny M AA (checkBuiltinCall newId ⟨.ref C :: vs, kw⟩) Q EE ⟨hh, gg, dr, tt, oss⟩ := by
  have inB : (Value.ref C :: bm).contains (.type B) = true := by
    rw [List.contains_cons, okB]
    exact Bool.or_true _
  have star := FB.noStar
  simp only [checkBuiltinCall, FB.newKind, FB.newSplit, FB.newRow]
  repeat (first
    | refine wpAny_loadPart_at cl ?_
    | (refine wpAny_isSubtype_exc cl ?_; rw [inB])
    | refine wpAny_staticBase_exc cl ?_
    | refine wpAny_madeBy_exc cl ?_
    | simp only [bne_self_eq_false, Bool.false_eq_true, if_false]
    | wp_step)
  all_goals first | exact fin | skip

theorem newKw (FB : ExcBaseFacts B newId initId bmB) (okB : bm.contains (.type B) = true) (okA : bm.contains (.type "AttributeError") = false) (okN : bm.contains (.type "NameError") = false) {vs : List Value} {kw : List (Str × Value)}
    (cl : hh.get? C = some (excClassObj nn qn C N bs bm hdct sn sub ab col dd k0 k1 k2 k3 k5 newId)) (few : vs.length ≤ sizeLine)
    (fin : RR (.ok (.ret (.ref (hh.objs.size + 1)))) ⟨(hh.push (kdv_tup vs)).push (excO C hh.objs.size), gg, dr, tt, oss⟩) :
    codeAny (model pr wd) AA (.builtin newId ⟨.ref C :: vs, kw⟩) RR ⟨hh, gg, dr, tt, oss⟩ := by
  have es := FB.ends
  have inB : (Value.ref C :: bm).contains (.type B) = true := by
    rw [List.contains_cons, okB]
    exact Bool.or_true _
  have noA : (Value.ref C :: bm).contains (.type "AttributeError") = false := by
    rw [List.contains_cons, okA]
    rfl
  have noN : (Value.ref C :: bm).contains (.type "NameError") = false := by
    rw [List.contains_cons, okN]
    rfl
  refine codeAny_builtinAt FB.entry ?_
  unfold Builtin.«BaseException.__new__»
  refine PySem.wpAt_bind ?_
  show PySem.wpAt _ _ _ (stack >>= _) _ _ _
  refine PySem.wpAt_bind (PySem.wpAt_stack fun p0 below0 => PySem.wpAt_of_wpAny ?_)
  wp_walk
  refine PySem.wpAt_of_wpAny ?_
  rw [FB.owner]
  repeat (first
    | with_reducible refine wpAny_madeHere_exc FB.canon cl ?_
    | with_reducible refine wpAny_loadPart_at cl ?_
    | (with_reducible refine wpAny_isSubtype_exc cl ?_; first | rw [inB] | rw [noA] | rw [noN])
    | wp_step)
  show RR _ _
  rw [Heap.size_push]
  exact fin
theorem typeKw (FB : ExcBaseFacts B newId initId bmB) (okB : bm.contains (.type B) = true) (okA : bm.contains (.type "AttributeError") = false) (okN : bm.contains (.type "NameError") = false) {vs : List Value} {kw : List (Str × Value)} {fI : Addr} {Q : Fin → Shared → Prop}
    (cl : hh.get? C = some (excClassObj nn qn C N bs bm hdct sn sub ab col dd k0 k1 k2 k3 k5 newId)) (few : vs.length ≤ sizeLine)
    (fi : W.Looks (model pr wd) hh (typeLookup (.ref C) "__init__") (some (.ref fI))) (fb : ∀ me, W.Looks (model pr wd) hh (bindSpecial (.ref fI) me) (.ref fI, [me]))
    (fin : codeAny (model pr wd) AA (.call (.ref fI) ⟨.ref (hh.objs.size + 1) :: vs, kw⟩)
      (fun r s' => match r with | .ok (.ret v) => v = .none ∧ Q (.done (.ret (.ref (hh.objs.size + 1)))) s' | .ok _ => False | .error e => EE e s')
      ⟨(hh.push (kdv_tup vs)).push (excO C hh.objs.size), gg, dr, tt, oss⟩) :
    wpAny (model pr wd) AA (Builtin.«type.__call__» ⟨.ref C :: vs, kw⟩) Q EE ⟨hh, gg, dr, tt, oss⟩ := by
  repeat (first
    | with_reducible refine wpAny_loadPart_at cl ?_
    | with_reducible refine wpAny_madeBy_exc cl ?_
    | wp_step)
  refine codeAny_call_builtin_code (Code.quiet_builtin _ FB.quiet) (chkNew FB okB cl ?_)
  refine newKw FB okB okA okN cl few ?_
  show wpAny _ _ _ _ _ _
  have keep : ∀ b o, hh.get? b = some o → ((hh.push (kdv_tup vs)).push (excO C hh.objs.size)).get? b = some o := fun b o e0 => Heap.get?_push_of_some _ (Heap.get?_push_of_some _ e0)
  have cl2 := keep _ _ cl
  have there : ((hh.push (kdv_tup vs)).push (excO C hh.objs.size)).get? (hh.objs.size + 1) = some (excO C hh.objs.size) := by heap_get
  have selfIn : (Value.ref C :: bm).contains (.ref C) = true := by simp
  have fi2 := fi.keeps keep
  have fb2 := (fb (.ref (hh.objs.size + 1))).keeps keep
  unfold isInstance
  repeat (first
    | with_reducible refine wpAny_loadPart_at there ?_
    | (with_reducible refine wpAny_isSubtype_exc cl2 ?_; rw [selfIn])
    | wp_step)
  show wpAny _ _ (typeLookup (.ref C) _) _ _ _
  refine fi2.at ?_
  refine wpAny_holding (wpAny_bind (fb2.at ?_))
  refine wpAny_bind (wpAny_call (codeAny_mono fin fun r s' z => ?_))
  rcases r with e | (v | _ | _ | _) <;> first | exact z | exact z.elim | skip
  obtain ⟨rfl, z⟩ := z
  first
    | exact wpAny_pure (wpAny_pure z)
    | (wp_walk; exact z)
theorem chkCall {vs : List Value} {kw : List (Str × Value)} {Q : Unit → Shared → Prop} (cl : hh.get? C = some (excClassObj nn qn C N bs bm hdct sn sub ab col dd k0 k1 k2 k3 k5 newId))
    (fin : Q () ⟨hh, gg, dr, tt, oss⟩) : wpAny M AA (checkBuiltinCall "type.__call__" ⟨.ref C :: vs, kw⟩) Q EE ⟨hh, gg, dr, tt, oss⟩ := by
  have f3 := tc_sub
  have tyT : (⟨hh, gg, dr, tt, oss⟩ : Shared).TypeIs (.ref C) "type" := ⟨_, cl, rfl⟩
  simp only [checkBuiltinCall, tc_kind, tc_split]
  repeat (any_goals (first
    | assumption
    | with_reducible refine wpAny_loadPart_at cl ?_
    | with_reducible refine wpAny_onRaise ?_
    | with_reducible refine wpAny_map ?_
    | wp_step))
/-- a class over an exception is called, with keywords or without -/
theorem callKw (FB : ExcBaseFacts B newId initId bmB) (okB : bm.contains (.type B) = true) (okA : bm.contains (.type "AttributeError") = false) (okN : bm.contains (.type "NameError") = false) {vs : List Value} {kw : List (Str × Value)} {fI : Addr}
    (cl : hh.get? C = some (excClassObj nn qn C N bs bm hdct sn sub ab col dd k0 k1 k2 k3 k5 newId)) (few : vs.length ≤ sizeLine)
    (fi : W.Looks (model pr wd) hh (typeLookup (.ref C) "__init__") (some (.ref fI))) (fb : ∀ me, W.Looks (model pr wd) hh (bindSpecial (.ref fI) me) (.ref fI, [me]))
    (fin : codeAny (model pr wd) (AA.under (.builtin "type.__call__" ⟨.ref C :: vs, kw⟩)) (.call (.ref fI) ⟨.ref (hh.objs.size + 1) :: vs, kw⟩) (W.InitBack (hh.objs.size + 1) RR)
      ⟨(hh.push (kdv_tup vs)).push (excO C hh.objs.size), gg, dr, tt, oss⟩) :
    codeAny (model pr wd) AA (.call (.ref C) ⟨vs, kw⟩) RR ⟨hh, gg, dr, tt, oss⟩ := by
  have f1 := tc_lookup
  have f2 := tc_bind (.ref C)
  have tyT : (⟨hh, gg, dr, tt, oss⟩ : Shared).TypeIs (.ref C) "type" := ⟨_, cl, rfl⟩
  refine codeAny_of_tree ?_
  show wpAny _ _ (callAny (.ref C) _) _ _ _
  repeat (any_goals (first
    | assumption
    | with_reducible refine wpAny_loadPart_at cl ?_
    | wp_step))
  refine ⟨rfl, ?_⟩
  refine codeAny_call_builtin_at (Code.quiet_builtin _ (by decide +kernel)) entry_typeCall (chkCall cl (typeKw FB okB okA okN cl few fi fb ?_))
  refine codeAny_mono fin fun r s' z => ?_
  rcases r with e | (v | _ | _ | _) <;> exact z
end low
end Bov


namespace Bov
open PySem PySem.W PySem.Spec PySem.Calls PyProof.Rows PySem.HandSPX

/-- an own class over exceptions, as the top has written it -/
structure EC (K : Frag) (C : Addr) (bm : List Value) : Prop where
  cls : ∃ (B newId initId : String) (bmB : List Value), ExcBaseFacts B newId initId bmB ∧ bm.contains (.type B) = true ∧
    ∃ nn qn N bs sn sub ab col dd k0 k1 k2 k3 k5, K.lookup C = some (excClassObj nn qn C N bs bm true sn sub ab col dd k0 k1 k2 k3 k5 newId)
  okA : bm.contains (.type "AttributeError") = false
  okN : bm.contains (.type "NameError") = false
  okO : bm.contains (.type "object") = true
  okE : bm.contains (.type "BaseException") = true
  pass : ∀ me, refuseLoop me "__setattr__" bm = pure ()
  sa : findIn K (.ref C) "__setattr__" = some (some (.builtin "object.__setattr__"))
  ga : findIn K (.ref C) "__getattribute__" = some (some (.builtin "BaseException.__getattribute__"))
  gg : findIn K (.ref C) "__getattr__" = some none
  ca : findIn K (.ref C) "__class__" = some (some (.builtin "object.__class__"))
  kC : keepIn K (.ref C) = true

section
variable {K : Frag} {C : Addr} {bm : List Value}
theorem EC.cd (T : EC K C bm) : ∃ cd, clsIn K C = some cd ∧ cd.mro = .ref C :: bm ∧ cd.hasDict = true := by
  obtain ⟨B, newId, initId, bmB, FB, okB, nn, qn, N, bs, sn, sub, ab, col, dd, k0, k1, k2, k3, k5, e⟩ := T.cls
  refine ⟨{ name := nn, bases := bs, mro := .ref C :: bm, ns := N, qualname := qn, hasDict := true, slotNames := sn, subclasses := sub, abstract := ab, collection := col, hasDel := false }, ?_, rfl, rfl⟩
  unfold clsIn
  rw [e]
theorem EC.mro (T : EC K C bm) (b : Value) : mroIn K C b = some ((Value.ref C :: bm).contains b) := by
  obtain ⟨cd, h1, h2, _⟩ := T.cd
  unfold mroIn
  rw [h1, Option.bind_some, h2]
  rfl
theorem EC.sub (T : EC K C bm) (b : Value) : subIn K (.ref C) b = some ((Value.ref C :: bm).contains b) := T.mro b
theorem EC.exC (T : EC K C bm) : subIn K (.ref C) (.type "BaseException") = some true := by
  rw [T.sub, List.contains_cons, T.okE, Bool.or_true]
theorem EC.obC (T : EC K C bm) : mroIn K C (.type "object") = some true := by
  rw [T.mro, List.contains_cons, T.okO, Bool.or_true]
theorem EC.tyC (T : EC K C bm) : typeIn K (.ref C) = some (.type "type") := by
  obtain ⟨B, newId, initId, bmB, FB, okB, nn, qn, N, bs, sn, sub, ab, col, dd, k0, k1, k2, k3, k5, e⟩ := T.cls
  show (K.lookup C).map (·.cls) = some (.type "type")
  rw [e]
  rfl
theorem EC.hdC (T : EC K C bm) : hasDictIn K C = true := by
  obtain ⟨cd, h1, _, h3⟩ := T.cd
  unfold hasDictIn
  rw [h1]
  exact h3
theorem EC.clC (T : EC K C bm) : isClsIn K C = true := by
  obtain ⟨cd, h1, _, h3⟩ := T.cd
  unfold isClsIn
  rw [h1]
  rfl
end

section low
variable {pr : Program} {wd : World} {M : Model} {AA : Around} {EE : Value → Shared → Prop} {RR : Result → Shared → Prop} {hh : Heap} {gg : Array GenState} {dr : Drawn} {tt : Nat} {oss : OsState}
variable {K : Frag} {C : Addr} {bm : List Value}
open Builtin Builtin.ObjectAttr
/-- a first attribute is stored into such an exception -/
theorem storeNew {name : Str} {tk : Tok} {v : Value} {x : Addr} {fv : Array Value} (T : EC K C bm) (XI : K.In hh) (hx : hh.get? x = some { cls := .ref C, data := .fields fv }) (no : findIn K (.ref C) name = some none)
    (fin : ∀ h' tk' dx, (∀ b o, b ≠ x → hh.get? b = some o → h'.get? b = some o) → hh.objs.size ≤ dx → dx ≠ x → h'.get? x = some { cls := .ref C, dict := some dx, data := .fields fv } →
      h'.Ns1 dx (fun y => if y = name then some v else none) → RR (.ok (.ret .none)) ⟨h', gg, dr, tk', oss⟩) :
    codeAny (model pr wd) AA (.call (.builtin "object.__setattr__") ⟨[.ref x, .str name tk, v], []⟩) RR ⟨hh, gg, dr, tt, oss⟩ := by
  have at0 : W.InstAt hh x { cls := .ref C, data := .fields fv } C none := ⟨hx, rfl, rfl, trivial⟩
  have S0 := F.store_object
  obtain ⟨cd, hcd, hm, hd⟩ := T.cd
  have apart : x ≠ hh.objs.size := Nat.ne_of_lt (Heap.lt_size hx)
  have isO : W.Looks (model pr wd) hh (isInstance (.ref x) (.type "object")) true := at0.type.andThen (W.looks_mroIn XI T.obC)
  refine codeAny_call_builtin S0.slot.plain S0.entry (@W.check_slot (model pr wd) _ _ ⟨hh, gg, dr, tt, oss⟩ "object.__setattr__" "object" "__setattr__"
    (.ref x) [.str name tk, v] [] _ S0.kind S0.split isO (S0.args (.ref x) (.str name tk) v) ?_)
  have lm : W.Looks (model pr wd) hh (mroOf (.ref C)) cd.mro := (W.looks_clsIn XI hcd).andThen .now
  have lt : W.Looks (model pr wd) hh (storeTaker? none) none := .now
  have lc : W.Looks (model pr wd) hh (classData C) cd := W.looks_clsIn XI hcd
  rw [W.osa_eq, refuse_eq]
  refine wpAny_bind (wpAny_bind (at0.type.at (wpAny_bind (lm.at ?_))))
  rw [hm, refuseLoop_ref, T.pass]
  refine wpAny_pure (wpAny_bind (at0.type.at (wpAny_bind ((W.looks_findIn XI no).at (wpAny_bind (lt.at ?_))))))
  show wpAny _ _ (storeInOwnDict (.ref x) (.ref C) (.str name tk) name v false) _ _ _
  obtain ⟨a1, a2, a3, a4, a5, a6, a7, a8, a9, a10, a11⟩ := cd
  dsimp only at hd
  subst hd
  unfold storeInOwnDict ownDictForStores
  repeat (first
    | with_reducible refine store_in_new ?_ ?_
    | with_reducible refine wpAny_loadPart_at hx ?_
    | with_reducible refine lc.at ?_
    | wp_step)
  · exact ⟨_, #[], _, (Heap.get?_update_ne _ _ _ _ apart.symm).trans (Heap.get?_push_at rfl rfl), rfl, fun e0 he => absurd he (by simp), fun _ => rfl⟩
  · intro h' tk' hn' hs
    have x1 : (hh.push { cls := .type "dict", data := .dict #[] }).get? x = some { cls := .ref C, data := .fields fv } := Heap.get?_push_of_some _ hx
    refine fin h' tk' hh.objs.size (fun b o hb ho => ?_) (Nat.le_refl _) apart.symm ?_ hn'
    · exact (hs.2 b (Nat.ne_of_lt (Heap.lt_size ho))).trans ((Heap.get?_update_ne _ _ _ _ hb).trans (Heap.get?_push_of_some _ ho))
    · exact (hs.2 x apart).trans (Heap.get?_update_self _ x1 rfl)
end low
end Bov


namespace L2.Bv
open PySem PySem.Spec PyProof.Rows Bov
theorem upd3 {H : Hp} {a dx : Addr} {o1 o2 o3 : HO} (n : dx ≠ a) : upd (upd (upd H a o1) dx o2) a o3 = upd (upd H dx o2) a o3 := by
  funext b
  by_cases e1 : b = a
  · rw [e1, upd_same, upd_same]
  · rw [upd_ne e1, upd_ne e1]
    by_cases e2 : b = dx
    · rw [e2, upd_same, upd_same]
    · rw [upd_ne e2, upd_ne e2, upd_ne e1]
section
variable {X : Cx} {pins : List (Addr × Obj)} {σ : St} {H : Hp} {s : Shared} {a C dx fI : Addr} {f : Str} {y : V} {u : Value} {bm : List Value}
/-- me.f = y, me an exception that has no dict yet -/
theorem stEx {Q : Unit → Shared → Prop} {E : Value → Shared → Prop} {A : Around} (T : EC X.K C bm) (no : PySem.W.findIn X.K (.ref C) f = some none) (I : Inv X pins σ H s) (ea : H a = some (exo a C none)) (ry : RelV y u)
    (fin : ∀ d s', H d = none → d ≠ a → Inv X pins σ (upd (upd H d (exd d [(f, y)])) a (exo a C (some d))) s' → Q () s') : wpAny (model X.prog X.w) A (setAttr (.ref a) f u) Q E s := by
  obtain ⟨t1, ho⟩ := exo_at I.hok ea
  obtain ⟨hp, g, dr, t, os⟩ := s
  refine PySem.W.set_plain I.kIn (ox := { cls := .ref C, dict := none, data := .fields #[.ref t1, .none, .none, .none, .bool false, .none] }) (od := none) ⟨ho, rfl, rfl, trivial⟩ T.sa ?_
  refine storeNew T I.kIn ho no fun h' tk' d kp dn dne hx hn => ?_
  have hnd : H d = none := I.hok.fresh dn
  have nd : ∀ {b : Addr} {o : Obj}, hp.get? b = some o → b ≠ d := fun {b o} q0 => Nat.ne_of_lt (Nat.lt_of_lt_of_le (Heap.lt_size q0) dn)
  have na : ∀ {b : Addr}, H b = none → b ≠ a := fun {b} n z0 => by
    rw [z0, ea] at n
    cases n
  have U : Un X.fs [] H (upd (upd H d (exd d [(f, y)])) a (exo a C (some d))) hp h' := {
    keep := fun b o q0 n _ _ => kp b o (na n) q0
    slot := fun b o q0 n _ _ => ⟨o.slots, kp b o (na n) q0⟩
    free := fun b o q0 n _ => by
      rw [upd_ne (na n), upd_ne (nd q0)]
      exact n
    there := fun b o q0 _ => by
      by_cases hb : b = a
      · rw [hb]
        exact ⟨_, hx⟩
      · exact ⟨o, kp b o hb q0⟩
    tups := fun b xs q0 => by
      rw [upd_ne (at_ne ea q0 exo_tup), upd_ne (ne_of_none q0 hnd)]
      exact q0
    frzs := fun b o v q0 => by
      rw [upd_ne (at_ne ea q0 exo_frz), upd_ne (ne_of_none q0 hnd)]
      exact q0
    tbls := fun b ps q0 => ⟨#[], by
      rw [upd_ne (at_ne ea q0 exo_tbl), upd_ne (ne_of_none q0 hnd), q0]
      simp⟩ }
  refine fin d _ hnd dne (I.un (t' := tk') U fun b o q0 => ?_)
  by_cases hb : b = a
  · subst hb
    rw [upd_same] at q0
    cases q0
    exact exo_ok hx
  · rw [upd_ne hb] at q0
    by_cases hd : b = d
    · subst hd
      rw [upd_same] at q0
      cases q0
      exact exd_ok hn (relO_put (fs := []) ry fun _ => True.intro)
    · rw [upd_ne hd] at q0
      refine (I.hok b o q0).stay (fun c v hc z0 => kp c v ?_ z0) (fun c hc => ?_) fun c xs hc => ?_
      · rcases hc with hc | hc
        · rw [hc]
          exact hb
        · exact at_ne ea hc exo_own
      · rw [upd_ne (at_ne ea hc exo_own), upd_ne (ne_of_none hc hnd)]
        exact hc
      · rw [upd_ne (at_ne ea hc exo_tup), upd_ne (ne_of_none hc hnd)]
        exact hc
/-- the statement me.f = e in such an __init__ -/
def tStEx (K : PySem.W.Frag) (f : Str) (to te : TE) : TS := fun D σ H => te σ H fun y H1 => to σ H1 fun x H2 => ∃ (a C : Addr) (bm : List Value), x = .ref a ∧ EC K C bm ∧ PySem.W.findIn K (.ref C) f = some none ∧
  H2 a = some (exo a C none) ∧ ∀ d, H2 d = none → d ≠ a → D.nx σ (upd (upd H2 d (exd d [(f, y)])) a (exo a C (some d)))
theorem psStEx {o e : Expr} {to te : TE} {p' pos : Pos} (ho : PE X o to) (he : PE X e te) (hs : swapsWith e (some (.Attribute o f p')) pos.line X.env = pure false := by rfl) : PS X (.Assign [.Attribute o f p'] e pos) (tStEx X.K f to te) := by
  refine ⟨fun pins s σ H D I h => ?_⟩
  refine plainObj_wpAny_Assign_Attribute (thn (he.run pins s σ H _ I h) fun v s1 ⟨y, H1, I1, r1, q1⟩ => thn (ho.run pins s1 σ H1 _ I1 q1) fun u s2 ⟨x, H2, I2, r2, a, C, bm, ex, T, no, ea, q⟩ => ?_) hs
  subst ex
  obtain rfl : u = Value.ref a := r2
  exact stEx T no I2 ea r1 fun d s' n ne J => ⟨σ, _, J, q d n ne⟩
/-- what such an __init__ promises -/
def spIni (C : Addr) (f : Str) : Sp := fun vs H Q _ => ∃ (a : Addr) (y : V), vs = [.ref a, y] ∧ H a = some (exo a C none) ∧ ∀ d, H d = none → d ≠ a → Q .non (upd (upd H d (exd d [(f, y)])) a (exo a C (some d)))
theorem okIni {P : Program} {w : World} {K : PySem.W.Frag} {mg : Str → Option Value} {base : Heap} {C fI : Addr} {fd : FuncData} {qual f : Str} {st : Stmt} {bm : List Value} {p1 p2 p3 p4 : Pos} (F : Fun K "__init__" qual st fI fd)
    (T : EC K C bm) (no : PySem.W.findIn K (.ref C) f = some none) (sc : FnScope ["self", f] ["self", f] (defScope st)) (hb : defBody st = [.Assign [.Attribute (.Name "self" p1) f p2] (.Name f p3) p4])
    (hd : (f == ("__debug__" : Str)) = false) (hc : (f == ("__classdict__" : Str)) = false)
    (v0 : Vis (defScope st) "self") (v1 : Vis (defScope st) f) (kd : (defScope st).kind = .function) : FnOk P w K mg base CX0 1 fI fd ["self", f] (spIni C f) := by
  refine F.ok sc (fun vs H Q E h => ?_) (fun cdv A outer s H vs Q E hr h => ?_)
  · obtain ⟨a, y, rfl, _⟩ := h
    rfl
  · obtain ⟨a, y, rfl, ea, q⟩ := h
    rw [hb]
    refine ⟨_, pss_one (psStEx (pv 0 rfl v0) (pv 1 rfl v1 hd hc)), ?_⟩
    exact ⟨_, rfl, _, rfl, a, C, bm, rfl, T, no, ea, fun d n ne => q d n ne⟩
/-- an exception of such a class is made -/
theorem runEx {Q : VK} {fd : FuncData} {k : Nat} {us : List Value} {kw : List (Str × Value)} (T : EC X.K C bm) (iC : PySem.W.findIn X.K (.ref C) "__init__" = some (some (.ref fI))) (tI : PySem.W.typeIn X.K (.ref fI) = some (.type "function"))
    (F1 : FnOk X.prog X.w X.K X.mg X.base CX0 k fI fd ["self", f] (spIni C f)) (hr : Room (k + 1) X.A) (hb : ∀ (s : Shared) (me : Value), BindsTo s fd ⟨me :: us, kw⟩ [("self", me), (f, u)]) (few : us.length ≤ sizeLine)
    (I : Inv X pins σ H s) (ry : RelV y u) (q : ∀ a d, H a = none → H d = none → d ≠ a → Q (.ref a) (upd (upd H d (exd d [(f, y)])) a (exo a C (some d)))) :
    wpAny (model X.prog X.w) X.A (call (.ref C) us kw) (EP X pins σ Q) X.xe s := by
  obtain ⟨B, newId, initId, bmB, FB, okB, nn, qn, N, bs, sn, sub, ab, col, dd, k0, k1, k2, k3, k5, hC⟩ := T.cls
  obtain ⟨hp, g, dr, tk, os⟩ := s
  have hsz : hp.objs.size ≤ hp.objs.size + 1 := Nat.le_succ _
  have hn : H (hp.objs.size + 1) = none := I.hok.fresh hsz
  have keep : ∀ b o, hp.get? b = some o → ((hp.push (PySem.W.kdv_tup us)).push (PySem.HandSPX.excO C hp.objs.size)).get? b = some o := fun b o e0 => Heap.get?_push_of_some _ (Heap.get?_push_of_some _ e0)
  have there : ((hp.push (PySem.W.kdv_tup us)).push (PySem.HandSPX.excO C hp.objs.size)).get? (hp.objs.size + 1) = some (PySem.HandSPX.excO C hp.objs.size) := by heap_get
  have I2 : Inv X pins σ (upd H (hp.objs.size + 1) (exo (hp.objs.size + 1) C none)) ⟨(hp.push (PySem.W.kdv_tup us)).push (PySem.HandSPX.excO C hp.objs.size), g, dr, tk, os⟩ :=
    I.laid (t' := tk) keep hsz (exo_ok there)
  have r2 : Vals [V.ref (hp.objs.size + 1), y] [Value.ref (hp.objs.size + 1), u] := .cons rfl (.cons ry .nil)
  have hq : spIni C f [V.ref (hp.objs.size + 1), y] (upd H (hp.objs.size + 1) (exo (hp.objs.size + 1) C none)) (fun v H3 => v = .non ∧ Q (.ref (hp.objs.size + 1)) H3) E0 := by
    refine ⟨_, y, rfl, upd_same, fun d n ne => ⟨rfl, ?_⟩⟩
    rw [upd3 ne]
    rw [upd_ne ne] at n
    exact q _ d hn n ne
  refine wpAny_call (callKw FB okB T.okA T.okN (I.kIn _ _ hC) few (PySem.W.looks_findIn I.kIn iC) (fun me => PySem.W.bind_fn I.kIn me tI) ?_)
  refine codeAny_mono (F1.run _ X.stack _ _ ⟨Value.ref (hp.objs.size + 1) :: us, kw⟩ [Value.ref (hp.objs.size + 1), u] _ _ E0 (hr.make C us kw) (I2.env0.make C us kw) (hb _ _) r2 hq) fun r s' z => ?_
  cases r with
  | error er => exact pass0 (X := X) pins σ _ _ er s' I2 z
  | ok fl =>
    cases fl with
    | ret v =>
      obtain ⟨v', H', I3, rv, ev, q3⟩ := I2.after z
      subst ev
      exact ⟨rv, ⟨V.ref (hp.objs.size + 1), H', I3, rfl, q3⟩⟩
    | next => exact False.elim z
    | brk => exact False.elim z
    | cont => exact False.elim z
/-- C(e), C(f=e) -/
def tEx (C : Addr) (f : Str) (te : TE) : TE := fun σ H Q => te σ H fun y H1 => ∀ a d, H1 a = none → H1 d = none → d ≠ a → Q (.ref a) (upd (upd H1 d (exd d [(f, y)])) a (exo a C (some d)))
/-- what such a class's call wants, told once -/
structure ExM (P : Program) (w : World) (K : PySem.W.Frag) (mg : Str → Option Value) (base : Heap) (C : Addr) (f : Str) (bm : List Value) (x : Str) : Prop where
  ec : EC K C bm
  no : PySem.W.findIn K (.ref C) f = some none
  gC : mg x = some (.ref C)
  ini : ∃ (fI : Addr) (fd : FuncData), PySem.W.findIn K (.ref C) "__init__" = some (some (.ref fI)) ∧ PySem.W.typeIn K (.ref fI) = some (.type "function") ∧ FnOk P w K mg base CX0 1 fI fd ["self", f] (spIni C f) ∧
    (∀ (s : Shared) (me u : Value), BindsTo s fd ⟨[me, u], []⟩ [("self", me), (f, u)]) ∧ (∀ (s : Shared) (me u : Value), BindsTo s fd ⟨[me], [(f, u)]⟩ [("self", me), (f, u)])
theorem peEx {x : Str} {e : Expr} {te : TE} {p pos : Pos} (M : ExM X.prog X.w X.K X.mg X.base C f bm x) (hr : Room 2 X.A) (he : PE X e te) (hg : Gl X x := by rfl) (hdb : (x == ("__debug__" : Str)) = false := by decide)
    (hs : starEach [e] X.env = (false, eval e X.env) :: starEach [] X.env := by rfl) : PE X (.Call (.Name x p) [e] [] pos) (tEx C f te) := by
  refine ⟨fun pins s σ H Q I h => ?_⟩
  obtain ⟨fI, fd, iC, tI, F1, b1, b2⟩ := M.ini
  refine wpAny_Call_Name_kw (ld_glob I hg M.gC ?_ hdb)
  refine PySem.W.callWith_K (h₀ := X.base) I.ok.mod.kin M.ec.kC ?_ hs (by rfl)
  rw [hs]
  show wpAny _ _ (spliced ((false, eval e X.env) :: backTo pos (starEach [] X.env))) _ _ s
  refine Calls.spliced_cons (thn (he.run pins s σ H _ I h) fun u s1 ⟨y, H1, I1, ry, q⟩ => ?_)
  refine Calls.spliced_nil ⟨I1.kIn, ?_⟩
  show wpAny _ _ (call (.ref C) [u]) _ _ _
  exact runEx M.ec iC tI F1 hr (fun s me => b1 s me u) (by show 1 ≤ sizeLine; rw [sizeLine_eq]; omega) I1 ry q
theorem peExK {x : Str} {e : Expr} {te : TE} {p pos kp : Pos} (M : ExM X.prog X.w X.K X.mg X.base C f bm x) (hr : Room 2 X.A) (he : PE X e te) (hg : Gl X x := by rfl) (hdb : (x == ("__debug__" : Str)) = false := by decide)
    (hall : (backToKw pos (keywordEach [⟨some f, e, kp⟩] X.env)).all (·.1.isSome) = true := by rfl) (hks : (backToKw pos (keywordEach [⟨some f, e, kp⟩] X.env)).filterMap (·.1) = [f] := by rfl)
    (hpl : ((backTo pos (starEach [] X.env)).any (·.1) || (backToKw pos (keywordEach [⟨some f, e, kp⟩] X.env)).any (·.1.isNone)) = false := by rfl) : PE X (.Call (.Name x p) [] [⟨some f, e, kp⟩] pos) (tEx C f te) := by
  refine ⟨fun pins s σ H Q I h => ?_⟩
  obtain ⟨fI, fd, iC, tI, F1, b1, b2⟩ := M.ini
  refine wpAny_Call_Name_kw (ld_glob I hg M.gC ?_ hdb)
  refine PySem.W.callWith_KW0 (h₀ := X.base) I.ok.mod.kin M.ec.kC hall ?_ hpl
  let R : List V → Hp → Prop := fun zs H1 => match zs with
    | [y] => ∀ a d, H1 a = none → H1 d = none → d ≠ a → Q (.ref a) (upd (upd H1 d (exd d [(f, y)])) a (exo a C (some d)))
    | _ => False
  refine thn ((pk_cons (nm := some f) (kpos := kp) he pk_nil).run pos pins s σ H R I h) fun ws s2 ⟨zs, H2, I2, rz, q2⟩ => ⟨I2.kIn, ?_⟩
  rw [hks]
  cases rz with
  | nil => exact False.elim q2
  | cons r1 r0 =>
    cases r0 with
    | nil => exact runEx M.ec iC tI F1 hr (fun s me => b2 s me _) (Nat.zero_le _) I2 r1 q2
    | cons _ _ => exact False.elim q2
end
end L2.Bv


namespace L2.Bv
open PySem PySem.Spec PyProof.Rows Bov
section
variable {X : Cx} {f : Str}
/-- what stands at a: an exception of the class at C, with fields or without -/
def ExAt (H : Hp) (a C : Addr) (d : Option Addr) : Prop := H a = some (exo a C d) ∧ ∀ dx, d = some dx → ∃ fs, H dx = some (exd dx fs)
theorem ExAt.inst {pins : List (Addr × Obj)} {σ : St} {H : Hp} {s : Shared} {a C : Addr} {d : Option Addr} (I : Inv X pins σ H s) (e : ExAt H a C d) : ∃ ox od, PySem.W.InstAt s.heap a ox C od := by
  obtain ⟨t1, ho⟩ := exo_at I.hok e.1
  cases d with
  | none => exact ⟨_, none, ho, rfl, rfl, trivial⟩
  | some dx =>
    obtain ⟨fs, hf⟩ := e.2 dx rfl
    obtain ⟨mA, hns, rel⟩ := exd_at I.hok hf
    obtain ⟨od, h1, _⟩ := lookIn_ns hns
    exact ⟨_, some od, ho, rfl, rfl, h1⟩
/-- isinstance(e, c) of such an exception -/
def rIsEx (K : PySem.W.Frag) : List V → Hp → VK → Prop := fun xs H Q => ∃ (a C : Addr) (bm : List Value) (d : Option Addr) (c : V) (cv : Value) (b : Bool), xs = [.ref a, c] ∧ EC K C bm ∧ ExAt H a C d ∧ ClsV c cv ∧
  PySem.W.kitOne K (.ref C) cv = some b ∧ Q (.bl b) H
theorem callIsEx (hn : PySem.W.specialIn X.K (.builtin "object.__class__") "__get__" = some (some (.builtin "getset_descriptor.__get__"))) (ht : PySem.W.takesIn X.K (.builtin "object.__class__") = some true) :
    CallR X (.builtin "isinstance") (rIsEx X.K) := by
  intro pins s σ H xs us Q I r h
  obtain ⟨a, C, bm, d, c, cv, b, rfl, T, ea, k, e, q⟩ := h
  obtain ⟨u1, u2, rfl, r1, r2⟩ := vals2 r
  have e2 := k.eq r2
  subst e2
  obtain rfl : u1 = Value.ref a := r1
  obtain ⟨ox, od, J⟩ := ea.inst I
  exact PySem.W.kia_one (PySem.W.kitx_exc T.clC T.ga T.gg T.exC T.ca hn ht T.obC) I.kIn J e (fun z => nomatch z) fun tk => ⟨.bl b, H, I.tok tk, rfl, q⟩
/-- e.f, e such an exception -/
def tFld (K : PySem.W.Frag) (f : Str) (te : TE) : TE := fun σ H Q => te σ H fun x H1 => ∃ (a C dx : Addr) (bm : List Value) (fs : List (Str × V)) (v : V), x = .ref a ∧ EC K C bm ∧ PySem.W.findIn K (.ref C) f = some none ∧
  H1 a = some (exo a C (some dx)) ∧ H1 dx = some (exd dx fs) ∧ fs.lookup f = some v ∧ Q v H1
theorem peFld {e : Expr} {te : TE} {pos : Pos} (he : PE X e te) (hb : attributeBase e f X.env (eval e X.env) = eval e X.env := by rfl) : PE X (.Attribute e f pos) (tFld X.K f te) := by
  refine ⟨fun pins s σ H Q I h => ?_⟩
  refine attr_of hb (thn (he.run pins s σ H _ I h) fun u s1 hh => ?_)
  obtain ⟨x, H1, I1, rx, a, C, dx, bm, fs, v, ex, T, no, ea, ed, l, q⟩ := hh
  subst ex
  obtain rfl : u = Value.ref a := rx
  obtain ⟨t1, ho⟩ := exo_at I1.hok ea
  obtain ⟨mA, hns, rel⟩ := exd_at I1.hok ed
  obtain ⟨od, h1, hl⟩ := lookIn_ns hns
  obtain ⟨w, hw, rw'⟩ := RelO.some_of (v := v) (o := mA f) (by
    rw [← l]
    exact rel f)
  have J : PySem.W.InstAt s1.heap a { cls := .ref C, dict := some dx, data := .fields #[.ref t1, .none, .none, .none, .bool false, .none] } C (some od) := ⟨ho, rfl, rfl, h1⟩
  refine HandSPX.exc_get I1.kIn J T.ga T.gg T.exC (PySem.W.findObj_own T.hdC no rfl ?_) (handed_of rw') ⟨v, H1, I1.tok _, rw', q⟩
  rw [hl, hw]
/-- C(), a class without an __init__ of its own -/
theorem peEx0 {C : Addr} {bmB : List Value} {B newId initId : String} {x : Str} {p pos : Pos} (FB : ExcBaseFacts B newId initId bmB) (q : PySem.W.excIn X.K C bmB newId = true) (gC : X.mg x = some (.ref C)) (kC : PySem.W.keepIn X.K (.ref C) = true) (hg : Gl X x := by rfl)
    (hdb : (x == ("__debug__" : Str)) = false := by decide) : PE X (.Call (.Name x p) [] [] pos) (fun _ H Q => ∀ a, H a = none → Q (.ref a) (upd H a (exo a C none))) := by
  refine ⟨fun pins s σ H Q I h => ?_⟩
  refine wpAny_Call_Name_kw (ld_glob I hg gC ?_ hdb)
  refine PySem.W.callWith_K0 I.kIn kC ?_
  show wpAny _ _ (call (.ref C) []) _ _ _
  obtain ⟨bm, N, nm, qn, bs, hdct, sn, sub, ab, col, dd, k0, k1, k2, k3, k5, mN, hC, hN, hni, T⟩ := exc_obj I.kIn q
  refine wpAny_call_exc_subT FB T hC hN hni (fun h' a hm => ?_) (Nat.zero_le _)
  have hn : H a = none := I.hok.gone hm.new
  obtain ⟨t, ht, _, _⟩ := hm.there
  exact ⟨.ref a, upd H a (exo a C none), I.laidN hm.keeps hm.new hn (exo_ok ht), rfl, h a hn⟩
end
end L2.Bv


namespace L2.Bv
open PySem PySem.Spec PyProof.Rows Bov
/-! ### repr of data: no guard of a repr around -/
section
variable {X : Cx}
def rRepr (K : PySem.W.Frag) : List V → Hp → VK → Prop := fun xs H Q => ∃ (x : V) (d : PyData), xs = [x] ∧ Dp K H x d ∧ d.showable = true ∧ d.hasDict = false ∧ d.depth ≤ 60 ∧ d.shown.length ≤ sizeLine ∧ Q (.str d.shown) H
theorem callRepr (hg : X.A.guards = some []) (hu : X.A.units + 64 < cLine) : CallR X (.builtin "repr") (rRepr X.K) := by
  intro pins s σ H xs us Q I r h
  obtain ⟨x, d, rfl, hd, sh, nd, dp, sz, q⟩ := h
  obtain ⟨u, rfl, rx⟩ := vals1 r
  obtain ⟨as, rd⟩ := Dp.reads I d x u hd rx
  have fin : ∀ h' v tk, (∀ b o, s.heap.get? b = some o → h'.get? b = some o) → EP X pins σ Q (.str d.shown v) { s with heap := h', toks := tk } := fun h' v tk kp => ⟨.str d.shown, H, I.kept kp, ⟨v, rfl⟩, q⟩
  cases rd with
  | none =>
    refine PySem.P.repr_of_none ?_
    have z := fin s.heap s.toks (s.toks + 1) fun _ _ e => e
    rwa [PyData.shown_none] at z
  | bool b =>
    refine PySem.P.repr_of_bool ?_
    have z := fin s.heap s.toks (s.toks + 1) fun _ _ e => e
    rwa [PyData.shown_bool] at z
  | int i t =>
    refine PySem.P.repr_of_int (by simpa [PyData.showable] using sh) ?_
    have z := fin s.heap s.toks (s.toks + 1) fun _ _ e => e
    rwa [PyData.shown_int] at z
  | str y t =>
    refine PySem.P.repr_of_str (hsz := by rwa [PyData.shown_str] at sz) ?_
    have z := fin s.heap s.toks (s.toks + 1) fun _ _ e => e
    rwa [PyData.shown_str] at z
  | list h1 h2 h3 h4 => exact repr_of_reads' (.list h1 h2 h3 h4) sh (fun z => by rw [nd] at z; cases z) hg (by omega) (fun _ _ e => e) fin sz
  | tuple h1 h2 h3 h4 => exact repr_of_reads' (.tuple h1 h2 h3 h4) sh (fun z => by rw [nd] at z; cases z) hg (by omega) (fun _ _ e => e) fin sz
  | dict h1 h2 h3 h4 h5 => cases nd
end
/-! ### defs that are called where no repr runs -/
structure FnG (P : Program) (w : World) (K : PySem.W.Frag) (mg : Str → Option Value) (base : Heap) (CX : CXT) (k : Nat) (f : Addr) (fd : FuncData) (ps : List Str) (sp : Sp) : Prop where
  len : ∀ vs H Q E, sp vs H Q E → vs.length = ps.length
  run : ∀ (A : Around) (outer : List Env) (s : Shared) (H : Hp) (args : Args) (us : List Value) (vs : List V) (Q : VK) (E : XK), Room k A → A.guards = some [] →
    Env0 P w K mg base A outer s H → BindsTo s fd args (ps.zip us) → Vals vs us → sp vs H Q E → codeAny (model P w) A (.call (.ref f) args) (CR CX outer P w H s Q E) s
section
variable {P : Program} {w : World} {K : PySem.W.Frag} {mg : Str → Option Value} {base : Heap}
theorem FnG.of {CX : CXT} {k : Nat} {f : Addr} {fd : FuncData} {ps : List Str} {sp : Sp} (F : FnOk P w K mg base CX k f fd ps sp) : FnG P w K mg base CX k f fd ps sp :=
  ⟨F.len, fun A outer s H args us vs Q E hr _ he hb hv hs => F.run A outer s H args us vs Q E hr he hb hv hs⟩
/-- a def by its body, where no repr runs around -/
theorem okG {x qual : Str} {st : Stmt} {f : Addr} {fd : FuncData} {N ps : List Str} {k : Nat} {sp : Sp} (F : Fun K x qual st f fd) (S : FnScope N ps (defScope st)) (len : ∀ vs H Q E, sp vs H Q E → vs.length = ps.length)
    (body : ∀ (cdv : Value) (A : Around) (outer : List Env) (s : Shared) (H : Hp) (vs : List V) (Q : VK) (E : XK), Room k (A.deeper (envOfC qual (defScope st) s.heap.objs.size f cdv)) → A.guards = some [] → sp vs H Q E →
      ∃ t, PSs (cxOf CX0 P w K mg base N qual (defScope st) f cdv A outer s H E).nox (defBody st) t ∧ t { nx := fun _ H' => Q .non H', rt := Q } (start N vs) H) : FnG P w K mg base CX0 (k + 1) f fd ps sp := by
  obtain ⟨oc, od, kV, doc, pm, an, cdv, ct, osl, rfl, lk, hcd⟩ := F.ex
  refine ⟨len, fun A outer s H args us vs Q E hr hgd e0 hb r hsp => ?_⟩
  have same := len _ _ _ _ hsp
  have KX : K.In s.heap := e0.mod.kin.keeps fun b o e => (e0.bs b o e).1
  have lim : s.heap.NoLimit := e0.mod.nolimit.keeps fun b o e => (e0.bs b o e).1
  have kinds : ∀ y ∈ ps.zip us, (defScope st).names.lookup y.1 = some .local ∨
      ((defScope st).names.lookup y.1 = some .cell ∧ ((cellsFrom (s.heap.objs.size + 1) (defScope st).names []).lookup y.1).isSome = true) := fun ⟨n, v⟩ hy => by
    rcases S.par n (List.of_mem_zip hy).1 with z | z
    · exact .inl z
    · exact .inr ⟨z, PySem.W.cellsFrom_some _ _ _ (.inl z)⟩
  refine codeAny_call_function hr.depth (KX _ _ lk) rfl S.co S.gen rfl (PySem.W.codeRec_of KX hcd) (hb _ _ _ _ ?_)
  refine wpAny_newFunctionEnv_cells S.kind kinds fun env he s1 x => ?_
  subst he
  refine ⟨lim.keeps x.toInCall.keep, codeAny_func ?_⟩
  obtain ⟨t, ht, hq⟩ := body cdv A outer s H vs Q E (hr.deeper _) hgd hsp
  have I : Inv (cxOf CX0 P w K mg base N qual (defScope st) f cdv A outer s H E) [] (start N vs) H s1 := inv_start S hr.hd e0 same r x
  refine wpAny_mono (ht.nox.run [] s1 (start N vs) H _ I hq) (fun fl s' hs => ?_) fun e s' hs => hs
  cases fl with
  | ret u =>
    obtain ⟨v, σ', H', J, rv, z⟩ := hs
    exact ⟨v, H', J.os, J.bare, J.base, J.hok, rv, z⟩
  | next =>
    obtain ⟨σ', H', J, z⟩ := hs
    exact ⟨V.non, H', J.os, J.bare, J.base, J.hok, rfl, z⟩
  | brk =>
    obtain ⟨_, _, _, z⟩ := hs
    exact False.elim z
  | cont =>
    obtain ⟨_, _, _, z⟩ := hs
    exact False.elim z
end
section
variable {X : Cx} {CX : CXT} {k : Nat} {f : Addr} {fd : FuncData} {ps : List Str} {sp : Sp} {dvs : List V} {ds : List Value} {E : XK} {x : Str} {p pos : Pos} {e : Expr} {es : List Expr} {t : TA}
theorem peCallG (F : FnG X.prog X.w X.K X.mg X.base CX k f fd ps sp) (hr : Room k X.A) (hgd : X.A.guards = some []) (hg : Gl X x) (hm : X.mg x = some (.ref f)) (hk : PySem.W.keepIn X.K (.ref f) = true) (hb : Binds X.K fd ps ds) (hd : Vals dvs ds) (hx : Passes CX X E)
    (ha : PA X (e :: es) t) (hdb : (x == ("__debug__" : Str)) = false := by decide) (he : starEach (e :: es) X.env = (false, eval e X.env) :: starEach es X.env := by rfl) (hpl : (backTo pos (starEach es X.env)).any (·.1) = false := by rfl) :
    PE X (.Call (.Name x p) (e :: es) [] pos) (tCall sp dvs E t) := by
  refine ⟨fun pins s σ H Q I h => ?_⟩
  refine wpAny_Call_Name_kw (ld_glob I hg hm ?_ hdb)
  refine PySem.W.callWith_K (h₀ := X.base) I.ok.mod.kin hk (thn (ha.run pos pins s σ H _ I h) fun us s1 ⟨vs, H1, I1, r, q⟩ => ⟨I1.kIn, ?_⟩) he hpl
  have r2 : Vals (vs ++ dvs) (us ++ ds) := r.append hd
  have same : (us ++ ds).length = ps.length := by
    rw [← r2.length]
    exact F.len _ _ _ _ q
  refine wpAny_call (codeAny_mono (F.run X.A X.stack s1 H1 ⟨us, []⟩ (us ++ ds) (vs ++ dvs) Q E hr hgd I1.env0 (hb s1 us I1.kIn same) r2 q) fun r s' z => ?_)
  cases r with
  | error er => exact hx pins σ H1 s1 er s' I1 z
  | ok fl =>
    cases fl with
    | ret v => exact I1.after z
    | next => exact False.elim z
    | brk => exact False.elim z
    | cont => exact False.elim z
end
/-! ### the law's own call, where no repr runs around -/
theorem lawCallG {P : Program} {w : World} {K : PySem.W.Frag} {mg mb : Str → Option Value} {k : Nat} {fa a : Addr} {fd : FuncData} {x : Str} {sp : Sp} {s₁ : Shared} {vs : List Value} {ns : List Int}
    (KX : K.In s₁.heap) (hns : s₁.heap.Ns mainGlobals mg) (hb : s₁.heap.Ns builtinsNs mb) (hbb : ∀ x : Str, x ≠ "__name__" → mb x = bootBuiltins x) (hlim : s₁.heap.NoLimit) (hg : s₁.gens = #[])
    (ha : s₁.heap.get? a = some { cls := .type "list", data := .seq vs.toArray }) (hi : IntsAre vs ns) (hl : ns.length ≤ sizeLine) (hr : Room k callerA)
    (F : ∀ base : Heap, K.In base → base.Ns mainGlobals mg → FnG P w K mg base CX0 k fa fd [x] sp) (bind : ∀ (s : Shared) (u : Value), BindsTo s fd ⟨[u], []⟩ [(x, u)])
    (hsp : ∀ H : Hp, Only H → SqL K H a (ns.map V.int) → sp [.ref a] H (fun v _ => v = .bl true) fun _ _ _ => False) :
    codeAny (model P w) callerA (.call (.ref fa) ⟨[.ref a], []⟩) (fun r s' => r = .ok (.ret (.bool true)) ∧ OldK s₁.heap s'.heap ∧ s'.os = s₁.os ∧ AllBare s'.gens) s₁ := by
  have rv := vals_ints hi
  have lenV := hi.length
  have go : ∀ H : Hp, Only H → SqL K H a (ns.map V.int) → HOk P w H s₁.heap → (∀ b, H b ≠ none → b = a) → (H a ≠ none → K.lookup a = none) →
      codeAny (model P w) callerA (.call (.ref fa) ⟨[.ref a], []⟩) (fun r s' => r = .ok (.ret (.bool true)) ∧ OldK s₁.heap s'.heap ∧ s'.os = s₁.os ∧ AllBare s'.gens) s₁ := by
    intro H only hS hok one hK
    have isA : ∀ {b : Addr} {u : HO}, H b = some u → b = a := fun {b u} q0 => one b (by
      rw [q0]
      exact fun z => nomatch z)
    have dictFree : ∀ {b : Addr} {o : Obj} {es : Array DictEntry} {ep : Nat}, s₁.heap.get? b = some o → o.data = .dict es ep → H b = none := fun {b o es ep} e0 d0 => by
      cases q0 : H b with
      | none => rfl
      | some u =>
        have eb := isA q0
        subst eb
        rw [ha] at e0
        cases e0
        have d1 : Data.seq vs.toArray _ = Data.dict es ep := d0
        cases d1
    have nsT : ∀ {b : Addr} {m : Str → Option Value}, s₁.heap.Ns b m → (hidT s₁.heap H).Ns b m := fun {b m} ⟨o, es, ep, e0, d0, r0⟩ => ⟨o, es, ep, hidT_get e0 (dictFree e0 d0), d0, r0⟩
    have inT : K.In (hidT s₁.heap H) := fun b o e0 => hidT_get (KX b o e0) (by
      cases q0 : H b with
      | none => rfl
      | some u =>
        have eb := isA q0
        subst eb
        rw [hK (by rw [q0]; exact fun z => nomatch z)] at e0
        cases e0)
    have md : Mod K mg (hidT s₁.heap H) := ⟨inT, nsT hns, ⟨mb, nsT hb, hbb⟩, let ⟨mc, z1, z2⟩ := hlim; ⟨mc, nsT z1, z2⟩⟩
    have e0 : Env0 P w K mg (hidT s₁.heap H) callerA [] s₁ H := ⟨rfl, md, fun b o z => of_hidT z, Nat.le_of_eq (hidT_size _ _), trivial, fun b z => absurd (show b ∈ ([] : List Addr) from z) (by simp), hok, .of_eq hg⟩
    refine codeAny_mono ((F _ inT (nsT hns)).run callerA [] s₁ H ⟨[.ref a], []⟩ [.ref a] [.ref a] _ _ hr rfl e0 (bind s₁ (.ref a)) (.cons rfl .nil) (hsp H only hS)) fun r s' z => ?_
    cases r with
    | error e => exact False.elim z
    | ok fl =>
      cases fl with
      | next => exact False.elim z
      | brk => exact False.elim z
      | cont => exact False.elim z
      | ret u =>
        obtain ⟨v, H', os, bare, un, hok', r', q⟩ := z
        have q' : v = .bl true := q
        subst q'
        obtain rfl : u = Value.bool true := r'
        refine ⟨rfl, OldK.of_keep fun b o e1 => ?_, os, bare⟩
        cases q0 : H b with
        | none => exact un.keep b o e1 q0 (fun z => absurd (show b ∈ ([] : List Addr) from z) (by simp)) (by simp)
        | some u =>
          rcases only b with z | ⟨ob, xs, z⟩
          · rw [q0] at z
            cases z
          · have z2 := un.frzs b ob _ z
            obtain ⟨y1, _⟩ := hok b _ z
            obtain ⟨y2, _⟩ := hok' b _ z2
            rw [e1] at y1
            cases y1
            exact y2
  cases hk : K.lookup a with
  | some o =>
    have e := KX a o hk
    rw [ha] at e
    cases e
    refine go (fun _ => none) (fun _ => .inl rfl) ?_ (fun b u z => ?_) (fun b z => absurd rfl z) fun z => absurd rfl z
    · exact .inr ⟨_, vs.toArray, _, hk, rfl, rfl, rfl, by rw [List.size_toArray, lenV]; exact hl, by simpa using rv⟩
    · have z' : (none : Option HO) = some u := z
      cases z'
  | none =>
    let H0 : Hp := fun b => if b = a then some (.frz { cls := .type "list", data := .seq vs.toArray } (.lst (ns.map V.int))) else none
    have at_a : H0 a = some (.frz { cls := .type "list", data := .seq vs.toArray } (.lst (ns.map V.int))) := if_pos rfl
    have off_a : ∀ b, b ≠ a → H0 b = none := fun b z => if_neg z
    refine go H0 (fun b => ?_) (.inl (.inr ⟨_, at_a⟩)) (fun b u z => ?_) (fun b z => ?_) fun _ => hk
    · by_cases eb : b = a
      · rw [eb]
        exact .inr ⟨_, _, at_a⟩
      · exact .inl (off_a b eb)
    · by_cases eb : b = a
      · subst eb
        rw [at_a] at z
        cases z
        exact ⟨ha, by rw [List.length_map]; exact hl, vs, _, rv, ha⟩
      · rw [off_a b eb] at z
        cases z
    · by_cases eb : b = a
      · exact eb
      · exact absurd (off_a b eb) z
theorem walkG {l : PySem.W.OpenLaw} {n k : Nat} {q : Program} {loose : List Str} {XP : (Str → Option Value) → Heap → Prop} {YP : World → Heap → Prop} {d : DefRec} {K : Params → PySem.W.Frag} {sp : World → Sp} {x : Str}
    (hn : l.most = some n) (hn2 : n ≤ sizeLine) (hdf : d.params.defaults = []) (hr : Room k callerA) (hY : ∀ (w : World) (h : Heap), YP w h → (K w.params).In h)
    (F : ∀ (w : World) (mg : Str → Option Value) (fa : Addr) (h : Heap), (K w.params).In h → h.Ns mainGlobals mg → mg d.name = some (.ref fa) →
      ∃ fd : FuncData, (∀ (s : Shared) (u : Value), BindsTo s fd ⟨[u], []⟩ [(x, u)]) ∧ ∀ base : Heap, (K w.params).In base → base.Ns mainGlobals mg → FnG l.prog w (K w.params) mg base CX0 k fa fd [x] (sp w))
    (hsp : ∀ (w : World) (H : Hp) (a : Addr) (ns : List Int), ns.length ≤ n → Only H → SqL (K w.params) H a (ns.map V.int) → sp w [.ref a] H (fun v _ => v = .bl true) fun _ _ _ => False) :
    PySem.W.WalkO q loose XP YP l.row.toRowW d [] (fun f vs => PySem.call f vs) := by
  refine Att.attach_call hn hdf fun w s₀ s₁ mg mb fa o pm cd doc a vs ns G Y ho hd hcd hmg hobj hints hlen hg => ?_
  have KX := hY w _ Y
  obtain ⟨fd, hb, hF⟩ := F w mg fa _ KX G.T.g hmg
  exact lawCallG KX G.T.g G.T.b G.T.builtins G.T.nolimit hg hobj hints (Nat.le_trans hlen hn2) hr hF hb fun H hO hS => hsp w H a ns hlen hO hS
end L2.Bv


namespace L2.Bv
open PySem L2
/-! ### data of ints -/
theorem dpInts {K : PySem.W.Frag} {H : Hp} : ∀ ns : List Int, DpAll K H (ns.map V.int) (ns.map PyData.int)
  | [] => .nil
  | n :: r => .cons (.int n) (dpInts r)
theorem layInts : ∀ ns : List Int, PyData.canLayAll0 (ns.map PyData.int) = true
  | [] => by simp [PyData.canLayAll0]
  | n :: r => by simp [PyData.canLayAll0, PyData.canLay0, layInts r]
theorem depInts : ∀ ns : List Int, PyData.depthAll (ns.map PyData.int) = 0
  | [] => by simp [PyData.depthAll]
  | n :: r => by simp [PyData.depthAll, PyData.depth, depInts r]
theorem shInts (ns : List Int) : SeqAt.shaped (.list (ns.map PyData.int)) = true := by
  simp [SeqAt.shaped, PyData.canLay0, PyData.depth, layInts, depInts]
theorem eqvNil (ns : List Int) : PyData.eqv (.list (ns.map PyData.int)) (.list []) = decide (ns = []) := by
  cases ns with
  | nil => simp [PyData.eqv, PyData.eqvAll]
  | cons n r => simp [PyData.eqv, PyData.eqvAll]
theorem mulRoom {m : Int} (h0 : 0 ≤ m) (h1 : m < 2147483647) : -(2 ^ 64) < m ∧ m < 2 ^ 64 := by
  constructor <;> omega
/-- the deal at dl, its cells at cl -/
structure DealAt (H : Hp) (dl cl : Addr) : Prop where
  ex : ∃ (cs : List Int) (m : Int), H dl = some (.lst [.ref cl, .int m]) ∧ H cl = some (.lst (cs.map V.int)) ∧ 0 ≤ m ∧ m < 2147483647 ∧ (∀ c ∈ cs, 0 ≤ c) ∧ cs.length ≤ 63
/-- all but the deal is as it was -/
def Keep (dl cl : Addr) (H H' : Hp) : Prop := ∀ x o, x ≠ dl → x ≠ cl → H x = some o → H' x = some o
theorem Keep.refl (dl cl : Addr) (H : Hp) : Keep dl cl H H := fun _ _ _ _ h => h
theorem Keep.trans {dl cl : Addr} {H H1 H2 : Hp} (a : Keep dl cl H H1) (b : Keep dl cl H1 H2) : Keep dl cl H H2 := fun x o h1 h2 h => b x o h1 h2 (a x o h1 h2 h)
theorem Keep.new {dl cl p : Addr} {H : Hp} (o : HO) (h : H p = none) : Keep dl cl H (upd H p o) := fun x u _ _ e => by
  rw [upd_ne (ne_of_none e h)]
  exact e
theorem Keep.cells {dl cl : Addr} {H : Hp} (o : HO) : Keep dl cl H (upd H cl o) := fun x u _ n e => by
  rw [upd_ne n]
  exact e
theorem Keep.deal {dl cl : Addr} {H : Hp} (o : HO) : Keep dl cl H (upd H dl o) := fun x u n _ e => by
  rw [upd_ne n]
  exact e
theorem DealAt.ne {H : Hp} {dl cl : Addr} (D : DealAt H dl cl) : dl ≠ cl := by
  obtain ⟨cs, m, h1, h2, _⟩ := D.ex
  intro e
  rw [e, h2] at h1
  cases cs with
  | nil => cases h1
  | cons c r => cases h1
theorem DealAt.new {H : Hp} {dl cl p : Addr} (D : DealAt H dl cl) (o : HO) (h : H p = none) : DealAt (upd H p o) dl cl := by
  obtain ⟨cs, m, h1, h2, r⟩ := D.ex
  refine ⟨cs, m, ?_, ?_, r⟩
  · rw [upd_ne (ne_of_none h1 h)]
    exact h1
  · rw [upd_ne (ne_of_none h2 h)]
    exact h2
theorem DealAt.cells {H : Hp} {dl cl : Addr} (D : DealAt H dl cl) {cs : List Int} (h0 : ∀ c ∈ cs, 0 ≤ c) (h1 : cs.length ≤ 63) : DealAt (upd H cl (.lst (cs.map V.int))) dl cl := by
  have n := D.ne
  obtain ⟨_, m, e1, _, m0, m1, _⟩ := D.ex
  exact ⟨cs, m, by rw [upd_ne n]; exact e1, upd_same, m0, m1, h0, h1⟩
theorem DealAt.mix {H : Hp} {dl cl : Addr} (D : DealAt H dl cl) {m : Int} (h0 : 0 ≤ m) (h1 : m < 2147483647) : DealAt (upd H dl (.lst [.ref cl, .int m])) dl cl := by
  have n := D.ne
  obtain ⟨cs, _, _, e2, _, _, c0, c1⟩ := D.ex
  exact ⟨cs, m, upd_same, by rw [upd_ne n.symm]; exact e2, h0, h1, c0, c1⟩
theorem DealAt.new' {H : Hp} {dl cl p : Addr} {o : HO} (D : DealAt H dl cl) (h1 : p ≠ dl) (h2 : p ≠ cl) : DealAt (upd H p o) dl cl := by
  obtain ⟨cs, m, e1, e2, r⟩ := D.ex
  refine ⟨cs, m, ?_, ?_, r⟩
  · rw [upd_ne h1.symm]
    exact e1
  · rw [upd_ne h2.symm]
    exact e2
theorem Keep.onto {dl cl : Addr} {H H' : Hp} {o : HO} (k : Keep dl cl H H') (p : Addr) (h : H p = none) : Keep dl cl H (upd H' p o) := fun x u n1 n2 e => by
  rw [upd_ne (ne_of_none e h)]
  exact k x u n1 n2 e
theorem mapLast {cs : List Int} (h : cs ≠ []) : ∃ (r : List Int) (c : Int), cs = r ++ [c] := ⟨cs.dropLast, cs.getLast h, (List.dropLast_concat_getLast h).symm⟩
theorem seqWhile {c : TT} {tb t : TS} {D : Ends} {σ0 : St} {H0 : Hp} (Pv : Nat → Hp → Prop) (h0 : ∃ m, Pv m H0) (rest : ∀ m H1, Pv m H1 → t D σ0 H1)
    (turn : (∀ m H1, Pv m H1 → t D σ0 H1) → ∀ m H1, Pv m H1 → c σ0 H1 fun b H2 => if b = true then ∃ N : St → Hp → Prop, (∀ σ' H', N σ' H' → ∃ m', m' < m ∧ (σ' = σ0 ∧ Pv m' H')) ∧ tb { D with nx := N, ct := N, bk := t D } σ0 H2 else t D σ0 H2) :
    tSeq (tWhile c tb) t D σ0 H0 := by
  refine ⟨fun m σ H => σ = σ0 ∧ Pv m H, h0.imp fun m h => ⟨rfl, h⟩, ?_⟩
  rintro m σ H ⟨rfl, p⟩
  exact turn rest m H p
theorem eqvNilT {ns : List Int} (h : ns = []) : (!PyData.eqv (.list (ns.map PyData.int)) (.list [])) = false := by
  rw [eqvNil, decide_eq_true h]
  rfl
theorem eqvNilF {ns : List Int} (h : ns ≠ []) : (!PyData.eqv (.list (ns.map PyData.int)) (.list [])) = true := by
  rw [eqvNil, decide_eq_false h]
  rfl
theorem mapInj : ∀ {ns ms : List Int}, ns.map V.int = ms.map V.int → ns = ms
  | [], [], _ => rfl
  | [], _ :: _, h => by cases h
  | _ :: _, [], h => by cases h
  | n :: r, m :: t, h => by
    have h' : V.int n :: r.map V.int = V.int m :: t.map V.int := h
    injection h' with h1 h2
    injection h1 with h3
    rw [h3, mapInj h2]
theorem fdivNonneg {a b : Int} (ha : 0 ≤ a) (hb : 1 ≤ b) : 0 ≤ a.fdiv b := Int.fdiv_nonneg ha (by omega)
theorem fmodRange (a : Int) {b : Int} (hb : 1 ≤ b) : 0 ≤ a.fmod b ∧ a.fmod b < b := ⟨Int.fmod_nonneg_of_pos a (by omega), Int.fmod_lt_of_pos a (by omega)⟩
theorem atLast (r : List Int) (c : Int) : atI ((r ++ [c]).map V.int) (-1) = some (.int c) := by
  rw [List.map_append]
  exact atI_last _ _
theorem popLast (r : List Int) (c : Int) : ((r ++ [c]).map V.int)[((r ++ [c]).map V.int).length - 1]? = some (.int c) := by
  simp
theorem popRest (r : List Int) (c : Int) : ((r ++ [c]).map V.int).dropLast = r.map V.int := by
  rw [List.map_append]
  simp
theorem gN {i : Nat} {v : V} {σ : St} {H : Hp} {Q : St → Hp → Prop} (h : Q (σ.set i (some v)) H) : gName i v σ H Q := h
theorem yesT {σ : St} {H : Hp} {Q : Bool → Hp → Prop} (h : Q true H) : tYes σ H Q := h
theorem mapGet {ms : List Int} {i : Nat} {x : V} (h : (ms.map V.int)[i]? = some x) : ∃ z, ms[i]? = some z ∧ x = V.int z := by
  rw [List.getElem?_map] at h
  cases e : ms[i]? with
  | none =>
    rw [e] at h
    cases h
  | some z =>
    rw [e] at h
    exact ⟨z, rfl, (Option.some.inj h).symm⟩
theorem seqIfS {c : TT} {t r : TS} {D : Ends} {σ : St} {H : Hp} (Pv : Hp → Prop) (rest : ∀ H1, Pv H1 → r D σ H1)
    (test : (∀ H1, Pv H1 → r D σ H1) → c σ H fun b H1 => if b = true then t { D with nx := r D } σ H1 else r D σ H1) : tSeq (tIfS c t tNext) r D σ H := test rest
/-! ### texts of few signs -/
def Few (n : Nat) (z : Str) : Prop := z.length ≤ n ∧ ∀ c ∈ z.cps.toList, c < 128
theorem few_append {n m : Nat} {x y : Str} (hx : Few n x) (hy : Few m y) : Few (n + m) (x ++ y) := by
  refine ⟨?_, fun c hc => ?_⟩
  · rw [Str.length_append]
    have h1 := hx.1
    have h2 := hy.1
    omega
  · have e : (x ++ y).cps.toList = x.cps.toList ++ y.cps.toList := Array.toList_append
    rw [e] at hc
    rcases List.mem_append.mp hc with z | z
    · exact hx.2 c z
    · exact hy.2 c z
theorem few_none : Few 0 Str.empty := ⟨Nat.le_refl _, fun c hc => nomatch (show c ∈ ([] : List Nat) from hc)⟩
theorem few_join : ∀ ys : List Str, (∀ y ∈ ys, Few 1 y) → Few ys.length (Str.join Str.empty ys)
  | [], _ => few_none
  | [x], h => h x List.mem_cons_self
  | x :: y :: r, h => by
    have q := few_join (y :: r) fun z hz => h z (List.mem_cons_of_mem _ hz)
    have e : Str.join Str.empty (x :: y :: r) = x ++ Str.empty ++ Str.join Str.empty (y :: r) := rfl
    rw [e]
    have z := few_append (few_append (h x List.mem_cons_self) few_none) q
    have el : (x :: y :: r).length = 1 + 0 + (y :: r).length := by
      simp only [List.length_cons]
      omega
    rw [el]
    exact z
theorem few_sum : ∀ ys : List Str, (∀ y ∈ ys, Few 1 y) → (ys.map (·.length)).sum ≤ ys.length
  | [], _ => Nat.le_refl _
  | x :: r, h => by
    have q := few_sum r fun z hz => h z (List.mem_cons_of_mem _ hz)
    have q1 := (h x List.mem_cons_self).1
    simp only [List.map_cons, List.sum_cons, List.length_cons]
    omega
end L2.Bv


namespace L2.K0
open PySem L2 L2.Bv
def top (i : Nat) : Stmt := PySem.Challenge.pw_boundorvoid_k00_errors_and_what_they_kee.main.body.getD i (.Pass ⟨0, 0, 0, 0⟩)
abbrev sDeal : Stmt := top 15
abbrev sAny : Stmt := top 16
abbrev sOf : Stmt := top 17
abbrev sThing : Stmt := top 18
abbrev sMade : Stmt := top 19
abbrev sKinds : Stmt := top 20
abbrev sKept : Stmt := top 21
abbrev sCaught : Stmt := top 22
abbrev sLaw : Stmt := top 23
theorem scD : FnScope ["script", "base", "cells", "mix", "cell"] ["script", "base"] (defScope sDeal) := ⟨rfl, rfl, rfl, by decide +kernel, rfl, by decide +kernel, by decide +kernel⟩
theorem scA : FnScope ["deal", "bound", "rest"] ["deal", "bound"] (defScope sAny) := ⟨rfl, rfl, rfl, by decide +kernel, rfl, by decide +kernel, by decide +kernel⟩
theorem scO : FnScope ["deal", "some"] ["deal", "some"] (defScope sOf) := ⟨rfl, rfl, rfl, by decide +kernel, rfl, by decide +kernel, by decide +kernel⟩
def spAny : Sp := fun vs H Q _ => ∃ (dl cl : Addr) (b : Int), vs = [.ref dl, .int b] ∧ DealAt H dl cl ∧ 1 ≤ b ∧ b < 1073741824 ∧
  ∀ (r : Int) (H' : Hp), 0 ≤ r → r < b → DealAt H' dl cl → Keep dl cl H H' → Q (.int r) H'
section
variable {P : Program} {w : World} {K : PySem.W.Frag} {mg : Str → Option Value} {base : Heap}
theorem ok_any {f : Addr} {fd : FuncData} (F : Fun K "_law_any" "_law_any" sAny f fd) (mi : mg "int" = none) : FnOk P w K mg base CX0 1 f fd ["deal", "bound"] spAny := by
  refine F.ok scA (fun vs H Q E h => ?_) (fun cdv A outer s H vs Q E hr h => ?_)
  · obtain ⟨dl, cl, b, rfl, _⟩ := h
    rfl
  obtain ⟨dl, cl, b, rfl, D, b1, b2, q⟩ := h
  have hu := hr.units
  refine ⟨_, pss_cons (ps_while PassesOwn.never (PW.pt (pw_and
      (pt_cmpR (op_neD hu) (pe_ix ix_list (pv 0) pe_int (fun _ _ => rfl)) (pe_lst pa_nil) (nomark _))
      (pw_and1 (pt_cmpR op_eq (pe_ix ix_list (pe_ix ix_list (pv 0) pe_int (fun _ _ => rfl)) (pe_un un_neg pe_int) (fun _ _ => rfl)) pe_int (nomark _)))))
      (pss_one (ps_expr (pe_bm0 PySem.F.plainAttrs_list PySem.F.slot_list_pop PySem.F.type_list_pop mt_pop (pe_ix ix_list (pv 0) pe_int (fun _ _ => rfl))))))
    (pss_cons (ps_if (pt_cmpR (op_neD hu) (pe_ix ix_list (pv 0) pe_int (fun _ _ => rfl)) (pe_lst pa_nil) (nomark _))
      (pss_cons (ps_set (i := 2) scA.nd rfl (Or.inl rfl) (pe_callTy call_int1 (by rfl) mi (by decide +kernel)
        (pa_cons (pe_bm0 PySem.F.plainAttrs_list PySem.F.slot_list_pop PySem.F.type_list_pop mt_pop (pe_ix ix_list (pv 0) pe_int (fun _ _ => rfl))) pa_nil)))
      (pss_cons (ps_expr (pe_bm PySem.F.plainAttrs_list PySem.F.slot_list_append PySem.F.type_list_append mt_append (pe_ix ix_list (pv 0) pe_int (fun _ _ => rfl)) (pa_cons (pe_op op_fdivN (pv 2) (pv 1)) pa_nil)))
      (pss_one (ps_ret (pe_op op_modN (pv 2) (pv 1)))))) pss_nil)
    (pss_cons (ps_asg (pe_op op_mod (pe_callTy call_int1 (by rfl) mi (by decide +kernel) (pa_cons (pe_op op_add (pe_op op_mul (pe_ix ix_list (pv 0) pe_int (fun _ _ => rfl)) pe_int) pe_int) pa_nil)) pe_int) (pg_sub (pv 0) pe_int set_list))
    (pss_one (ps_ret (pe_op op_modN (pe_callTy call_int1 (by rfl) mi (by decide +kernel) (pa_cons (pe_op op_fdiv (pe_ix ix_list (pv 0) pe_int (fun _ _ => rfl)) pe_int) pa_nil)) (pv 1)))))), ?_⟩
  have hbN : b ≠ 0 ∧ b.natAbs < 1073741824 := by omega
  refine seqWhile (fun m H' => DealAt H' dl cl ∧ Keep dl cl H H' ∧ ∃ cs : List Int, H' cl = some (.lst (cs.map V.int)) ∧ cs.length = m) ?_ ?_ ?_
  · obtain ⟨cs, m, h1, h2, _⟩ := D.ex
    exact ⟨_, D, Keep.refl _ _ _, cs, h2, rfl⟩
  · rintro _ H1 ⟨D1, k1, -⟩
    have nd := D1.ne
    obtain ⟨cs, m, h1, h2, m0, m1, c0, c1⟩ := D1.ex
    refine ⟨_, rfl, _, _, _, _, rfl, rfl, SqL.of h1, rfl, (by show 0 ≤ sizeLine; decide), fun l hl => ?_⟩
    have D2 := D1.new (.lst []) hl
    have k2 := k1.trans (Keep.new (.lst []) hl)
    have g1 : upd H1 l (.lst []) dl = some (.lst [.ref cl, .int m]) := by
      rw [upd_ne (ne_of_none h1 hl)]
      exact h1
    have g2 : upd H1 l (.lst []) cl = some (.lst (cs.map V.int)) := by
      rw [upd_ne (ne_of_none h2 hl)]
      exact h2
    refine ⟨.list (cs.map PyData.int), .list [], .lst (SqL.of g2) (dpInts cs), .lst (SqL.of upd_same) .nil, shInts cs, shInts [], _, rfl, ?_⟩
    by_cases hcs : cs = []
    · rw [eqvNilT hcs]
      refine iteF ?_
      -- deal[1] = int(deal[1] * 48271 + 89) % 2147483647
      refine ⟨_, rfl, _, _, _, _, rfl, rfl, SqL.of g1, rfl, _, _, rfl, rfl, .inl (mulRoom m0 m1), _, _, rfl, rfl, .inl ⟨_, rfl, _, _, rfl, rfl, (by show (0 : Int) < 2147483647; decide), _, rfl, _, _, _, _, rfl, rfl, g1, rfl, ?_⟩⟩
      have x0 : 0 ≤ (m * 48271 + 89) % 2147483647 := Int.emod_nonneg _ (by decide)
      have x1 : (m * 48271 + 89) % 2147483647 < 2147483647 := Int.emod_lt_of_pos _ (by decide)
      have D3 := D2.mix x0 x1
      have k3 := k2.trans (Keep.deal (.lst [.ref cl, .int ((m * 48271 + 89) % 2147483647)]))
      obtain ⟨f0, f1⟩ := fmodRange ((m * 48271 + 89) % 2147483647 / 64) b1
      refine ⟨_, rfl, _, _, _, _, rfl, rfl, SqL.of upd_same, rfl, _, _, rfl, rfl, ⟨by decide, by decide⟩, .inl ⟨_, rfl, _, rfl, _, _, rfl, rfl, hbN.1, ?_⟩⟩
      exact q _ _ f0 f1 D3 k3
    · obtain ⟨r, c, rfl⟩ := mapLast hcs
      rw [eqvNilF hcs]
      refine iteT ?_
      have cc : 0 ≤ c := c0 c (by simp)
      have cr : ∀ z ∈ r, 0 ≤ z := fun z hz => c0 z (by simp [hz])
      have lr : r.length ≤ 62 := by
        simp at c1
        omega
      -- rest = int(deal[0].pop())
      refine ⟨_, rfl, _, _, _, _, rfl, rfl, SqL.of g1, rfl, .inl ⟨rfl, _, SqL.of g2⟩, _, _, _, rfl, rfl, g2, popLast r c, .inl ⟨_, rfl, ?_⟩⟩
      have g3 : upd (upd H1 l (.lst [])) cl (.lst ((r ++ [c]).map V.int).dropLast) dl = some (.lst [.ref cl, .int m]) := by
        rw [upd_ne nd]
        exact g1
      have g4 : upd (upd H1 l (.lst [])) cl (.lst ((r ++ [c]).map V.int).dropLast) cl = some (.lst (r.map V.int)) := by
        rw [upd_same, popRest]
      -- deal[0].append(rest // bound); return rest % bound
      refine ⟨_, rfl, _, _, _, _, rfl, rfl, SqL.of g3, rfl, .inl ⟨rfl, _, SqL.of g4⟩, _, rfl, _, rfl, _, _, rfl, rfl, hbN, _, _, _, rfl, rfl, g4, (by rw [List.length_map]; exact small1000 (by omega)), ?_⟩
      obtain ⟨f0, f1⟩ := fmodRange c b1
      refine ⟨_, rfl, _, rfl, _, _, rfl, rfl, hbN.1, ?_⟩
      have e : upd (upd (upd H1 l (.lst [])) cl (.lst ((r ++ [c]).map V.int).dropLast)) cl (.lst (r.map V.int ++ [.int (c.fdiv b)])) = upd (upd H1 l (.lst [])) cl (.lst ((r ++ [c.fdiv b]).map V.int)) := by
        rw [upd_upd, List.map_append]
        rfl
      rw [e]
      refine q _ _ f0 f1 (D2.cells (fun z hz => ?_) (by simp; omega)) (k2.trans (Keep.cells _))
      rcases List.mem_append.mp hz with z1 | z1
      · exact cr z z1
      · rw [List.mem_singleton.mp z1]
        exact fdivNonneg cc b1
  · rintro rest n H1 ⟨D1, k1, cs', e1, e2⟩
    obtain ⟨cs, m, h1, h2, m0, m1, c0, c1⟩ := D1.ex
    have nd := D1.ne
    obtain rfl : cs' = cs := by
      rw [e1] at h2
      exact mapInj (HO.lst.inj (Option.some.inj h2))
    refine ⟨_, rfl, _, _, _, _, rfl, rfl, SqL.of h1, rfl, (by show 0 ≤ sizeLine; decide), fun l hl => ?_⟩
    have D2 := D1.new (.lst []) hl
    have k2 := k1.trans (Keep.new (.lst []) hl)
    have g1 : upd H1 l (.lst []) dl = some (.lst [.ref cl, .int m]) := by
      rw [upd_ne (ne_of_none h1 hl)]
      exact h1
    have g2 : upd H1 l (.lst []) cl = some (.lst (cs'.map V.int)) := by
      rw [upd_ne (ne_of_none h2 hl)]
      exact h2
    refine ⟨.list (cs'.map PyData.int), .list [], .lst (SqL.of g2) (dpInts cs'), .lst (SqL.of upd_same) .nil, shInts cs', shInts [], _, rfl, ?_⟩
    by_cases hcs : cs' = []
    · rw [eqvNilT hcs]
      refine iteF (iteF ?_)
      exact rest n _ ⟨D2, k2, cs', g2, e2⟩
    · obtain ⟨r, c, rfl⟩ := mapLast hcs
      rw [eqvNilF hcs]
      refine iteT ?_
      have cr : ∀ z ∈ r, 0 ≤ z := fun z hz => c0 z (by simp [hz])
      have lr : r.length + 1 = n := by simpa using e2
      refine ⟨_, rfl, _, _, _, _, rfl, rfl, SqL.of g1, rfl, _, rfl, _, _, _, _, rfl, rfl, SqL.of g2, atLast r c, rfl, _, rfl, ?_⟩
      refine ite2 (fun hc => ?_) (fun hc => rest n _ ⟨D2, k2, _, g2, e2⟩)
      refine ⟨fun σ' H' => σ' = start ["deal", "bound", "rest"] [V.ref dl, V.int b] ∧ DealAt H' dl cl ∧ Keep dl cl H H' ∧ H' cl = some (.lst (r.map V.int)), fun σ' H' ⟨y1, y2, y3, y4⟩ => ⟨r.length, by omega, y1, y2, y3, r, y4, rfl⟩, ?_⟩
      refine ⟨_, rfl, _, _, _, _, rfl, rfl, SqL.of g1, rfl, .inl ⟨rfl, _, SqL.of g2⟩, _, _, _, rfl, rfl, g2, popLast r c, ?_⟩
      rw [popRest]
      exact ⟨rfl, D2.cells cr (by simp at c1; omega), k2.trans (Keep.cells _), upd_same⟩
end
end L2.K0


namespace L2.K0
open PySem L2 L2.Bv
def spDeal (K : PySem.W.Frag) : Sp := fun vs H Q _ => ∃ (a : Addr) (ns : List Int), vs = [.ref a, .int 100] ∧ SqL K H a (ns.map V.int) ∧ ns.length ≤ 63 ∧
  ∀ (dl cl : Addr) (H' : Hp), H dl = none → H cl = none → Same H H' → DealAt H' dl cl → Q (.ref dl) H'
section
variable {P : Program} {w : World} {K : PySem.W.Frag} {mg : Str → Option Value} {base : Heap}
theorem ok_deal {f : Addr} {fd : FuncData} (F : Fun K "_law_deal" "_law_deal" sDeal f fd) (mi : mg "int" = none) (ma : mg "abs" = none) : FnOk P w K mg base CX0 1 f fd ["script", "base"] (spDeal K) := by
  refine F.ok scD (fun vs H Q E h => ?_) (fun cdv A outer s H vs Q E hr h => ?_)
  · obtain ⟨a, ns, rfl, _⟩ := h
    rfl
  obtain ⟨a, ns, rfl, hS, hl, q⟩ := h
  have hu := hr.units
  refine ⟨_, pss_cons (ps_setLc (i := 2) (own := [("cell", 4)]) (g := gName 4) (tt := tYes) rfl scD.nd rfl rfl (sw_true rfl rfl rfl (by decide +kernel)) (pi_list (pe_slice sl_list (pv 0) po_none (po_some pe_int)))
      (blkOk_by (N := ["script", "base", "cells", "mix", "cell"]) (sc := defScope sDeal) (by decide +kernel)) (fun _ _ _ _ _ => pg_name (i := 4) scD.nd rfl (Or.inl rfl)) (fun _ _ _ _ _ => pts_nil)
      (fun _ _ _ _ _ => pe_callB call_abs (by rfl) ma (by decide +kernel) (pa_cons (pe_callTy call_int1 (by rfl) mi (by decide +kernel) (pa_cons (pv 4) pa_nil)) pa_nil)))
    (pss_cons (ps_set (i := 3) scD.nd rfl (Or.inl rfl) (pe_op op_add (pe_op op_mul pe_int (pv 1)) pe_int))
    (pss_cons (ps_for PassesOwn.never rfl (pi_list (pv 2)) (pg_name (i := 4) scD.nd rfl (Or.inl rfl))
      (pss_one (ps_set (i := 3) scD.nd rfl (Or.inl rfl) (pe_op op_mod (pe_callTy call_int1 (by rfl) mi (by decide +kernel)
        (pa_cons (pe_op op_add (pe_op op_add (pe_op op_mul (pv 3) pe_int) (pe_op op_mod (pv 4) pe_int)) pe_int) pa_nil)) pe_int))))
    (pss_one (ps_ret (pe_lst (pa_cons (pe_revL (pe_lc (own := [("cell", 4)]) (g := gName 4) (tt := _) rfl scD.nd (pi_list (pv 2)) (blkOk_by (N := ["script", "base", "cells", "mix", "cell"]) (sc := defScope sDeal) (by decide +kernel))
      (fun _ _ _ _ _ => pg_name (i := 4) scD.nd rfl (Or.inl rfl)) (fun _ _ _ _ _ => pts_one (pt_cmpR op_ge (pv 4) (pe_op op_pow pe_int pe_int) (nomark _))) (fun _ _ _ _ _ => pv 4))) (pa_cons (pv 3) pa_nil))))))), ?_⟩
  obtain ⟨ms, em, lm⟩ : ∃ ms : List Int, cutV (ns.map V.int) none (some 63) = ms.map V.int ∧ ms.length ≤ 63 := by
    refine ⟨(ns.drop (HT.sIx (ns.map V.int).length 0 none)).take (HT.sIx (ns.map V.int).length (ns.map V.int).length (some 63) - HT.sIx (ns.map V.int).length 0 none), ?_, ?_⟩
    · unfold cutV
      rw [List.map_take, List.map_drop]
    · rw [List.length_take, List.length_drop]
      omega
  refine ⟨_, rfl, _, rfl, _, _, rfl, hS, fun p hp => ?_⟩
  rw [em]
  refine ⟨p, rfl, ⟨_, SqL.of upd_same⟩, fun D hD => ?_⟩
  have npD : p ≠ D := ne_of_none upd_same hD
  have hDH : H D = none := by
    rw [upd_ne npD.symm] at hD
    exact hD
  let ab : Int → Int := fun z => if z < 0 then -z else z
  have ab0 : ∀ z, 0 ≤ ab z := fun z => by
    show 0 ≤ (if z < 0 then -z else z)
    split <;> omega
  refine lc_list (K := K) (a := p) (xs := ms.map V.int) (fun i H' => Same H H' ∧ H' p = some (.lst (ms.map V.int)) ∧ H' D = some (.lst ((ms.take i).map fun z => V.int (ab z)))) ?_ (fun i H' _ z => SqL.of z.2.1) ?_ ?_
  · refine ⟨fun b o e => ?_, ?_, upd_same⟩
    · rw [upd_ne (ne_of_none e hDH), upd_ne (ne_of_none e hp)]
      exact e
    · rw [upd_ne npD]
      exact upd_same
  · rintro i x H' hi ⟨s1, s2, s3⟩
    obtain ⟨z, hz, rfl⟩ := mapGet hi
    refine ⟨rfl, yesT (iteT ⟨_, rfl, .inl ⟨_, rfl, _, rfl, _, s3, ?_, ?_⟩⟩)⟩
    · rw [List.length_map]
      exact small1000 (by
        rw [List.length_take]
        omega)
    · refine ⟨fun b o e => ?_, ?_, ?_⟩
      · rw [upd_ne (ne_of_none e hDH)]
        exact s1 b o e
      · rw [upd_ne npD]
        exact s2
      · rw [upd_same, List.take_add_one, hz, List.map_append]
        rfl
  · rintro H1 ⟨s1, s2, s3⟩
    rw [List.length_map, List.take_length] at s3
    -- mix = 40093 * base + 877
    refine ⟨_, rfl, _, _, rfl, rfl, .inl ⟨by decide, by decide⟩, _, _, rfl, rfl, ?_⟩
    -- for cell in cells
    let cs : List Int := ms.map ab
    have ecs : (ms.map fun z => V.int (ab z)) = cs.map V.int := (List.map_map (l := ms) (f := ab) (g := V.int)).symm
    rw [ecs] at s3
    have lcs : cs.length ≤ 63 := by
      rw [List.length_map]
      exact lm
    have c0 : ∀ c ∈ cs, 0 ≤ c := fun c hc => by
      obtain ⟨z, _, rfl⟩ := List.mem_map.mp hc
      exact ab0 z
    refine ⟨_, rfl, D, rfl, ⟨_, SqL.of s3⟩, for_list (K := K) (a := D) (xs := cs.map V.int) (fun _ σ H2 => ∃ (m : Int) (v : Option V), σ = [some (.ref a), some (.int 100), some (.ref D), some (.int m), v] ∧ 0 ≤ m ∧ m < 2147483647 ∧ H2 = H1)
      ⟨_, none, rfl, by decide, by decide, rfl⟩ (fun _ _ _ _ ⟨_, _, _, _, _, e⟩ => by
        rw [e]
        exact SqL.of s3) ?_ ?_⟩
    · rintro i x σ H2 hi ⟨m, v, rfl, m0, m1, rfl⟩
      obtain ⟨z, hz, rfl⟩ := mapGet hi
      refine ⟨_, rfl, _, _, rfl, rfl, .inl (mulRoom m0 m1), _, rfl, _, _, rfl, rfl, (by show (0 : Int) < 2147483579; decide), _, _, rfl, rfl, _, _, rfl, rfl, .inl ⟨_, rfl, _, _, rfl, rfl, (by show (0 : Int) < 2147483647; decide), ?_⟩⟩
      exact ⟨_, _, rfl, Int.emod_nonneg _ (by decide), Int.emod_lt_of_pos _ (by decide), rfl⟩
    · rintro σ H2 ⟨m, v, rfl, m0, m1, rfl⟩
      -- return [[..][::-1], mix]
      refine ⟨_, rfl, D, rfl, ⟨_, SqL.of s3⟩, fun D2 hD2 => ?_⟩
      have hDD : D ≠ D2 := ne_of_none s3 hD2
      refine lc_list (K := K) (a := D) (xs := cs.map V.int) (fun i H' => Same H2 H' ∧ ∃ ds : List Int, H' D2 = some (.lst (ds.map V.int)) ∧ ds.length ≤ i ∧ ∀ c ∈ ds, 0 ≤ c) ?_ (fun i H' _ z => SqL.of (z.1 _ _ s3)) ?_ ?_
      · refine ⟨fun b o e => ?_, [], upd_same, Nat.le_refl _, fun c hc => absurd hc (by simp)⟩
        rw [upd_ne (ne_of_none e hD2)]
        exact e
      · rintro i x H' hi ⟨t1, ds, t2, t3, t4⟩
        obtain ⟨z, hz, rfl⟩ := mapGet hi
        have hi63 : i < 63 := by
          have q0 := (List.getElem?_eq_some_iff.mp hz).1
          omega
        refine ⟨rfl, _, rfl, _, _, rfl, rfl, ⟨by decide, by decide, by decide⟩, _, _, rfl, rfl, _, rfl, ?_⟩
        refine ite2 (fun _ => ?_) (fun _ => ⟨t1, ds, t2, Nat.le_succ_of_le t3, t4⟩)
        refine ⟨_, rfl, _, t2, ?_, ?_⟩
        · rw [List.length_map]
          exact small1000 (by omega)
        · refine ⟨fun b o e => ?_, ds ++ [z], ?_, ?_, ?_⟩
          · rw [upd_ne (ne_of_none e hD2)]
            exact t1 b o e
          · rw [upd_same, List.map_append]
            rfl
          · rw [List.length_append]
            exact Nat.succ_le_succ t3
          · intro c hc
            rcases List.mem_append.mp hc with y | y
            · exact t4 c y
            · rw [List.mem_singleton.mp y]
              exact c0 z (List.mem_of_getElem? hz)
      · rintro H3 ⟨t1, ds, t2, t3, t4⟩
        rw [List.length_map] at t3
        refine ⟨_, _, rfl, SqL.of t2, fun cl hcl => ⟨_, rfl, ⟨by show 2 ≤ sizeLine; decide, fun dl hdl => ?_⟩⟩⟩
        rw [← List.map_reverse] at hdl ⊢
        have s4 : Same H H3 := s1.trans t1
        have ncd : cl ≠ dl := ne_of_none upd_same hdl
        have hdl3 : H3 dl = none := by
          rw [upd_ne ncd.symm] at hdl
          exact hdl
        refine q dl cl _ (s4.free hdl3) (s4.free hcl) (fun b o e => ?_) ⟨ds.reverse, m, upd_same, ?_, m0, m1, fun c hc => t4 c (List.mem_reverse.mp hc), ?_⟩
        · rw [upd_ne (ne_of_none (s4 b o e) hdl3), upd_ne (ne_of_none (s4 b o e) hcl)]
          exact s4 b o e
        · rw [upd_ne ncd]
          exact upd_same
        · rw [List.length_reverse]
          omega
end
end L2.K0


namespace L2.K0
open PySem L2 L2.Bv
/-- one of the things of a list, one sign of a text -/
def spOf : Sp := fun vs H Q _ => ∃ (dl cl : Addr) (x : V), vs = [.ref dl, x] ∧ DealAt H dl cl ∧
  ((∃ (a : Addr) (xs : List V), x = .ref a ∧ a ≠ dl ∧ a ≠ cl ∧ H a = some (.lst xs) ∧ 1 ≤ xs.length ∧ xs.length ≤ 1000 ∧ ∀ (i : Nat) (v : V) (H' : Hp), xs[i]? = some v → DealAt H' dl cl → Keep dl cl H H' → Q v H') ∨
   (∃ z : Str, x = .str z ∧ 1 ≤ z.length ∧ z.length ≤ 1000 ∧ ∀ (c : Nat) (H' : Hp), c ∈ z.cps.toList → DealAt H' dl cl → Keep dl cl H H' → Q (.str ⟨#[c]⟩) H'))
section
variable {P : Program} {w : World} {K : PySem.W.Frag} {mg : Str → Option Value} {base : Heap}
theorem ok_of {f g : Addr} {fd gd : FuncData} (F : Fun K "_law_of" "_law_of" sOf f fd) (G : FnOk P w K mg base CX0 1 g gd ["deal", "bound"] spAny) (kG : PySem.W.keepIn K (.ref g) = true) (bG : Binds K gd ["deal", "bound"] []) (mG : mg "_law_any" = some (.ref g))
    (ml : mg "len" = none) : FnOk P w K mg base CX0 2 f fd ["deal", "some"] spOf := by
  refine F.ok scO (fun vs H Q E h => ?_) (fun cdv A outer s H vs Q E hr h => ?_)
  · obtain ⟨dl, cl, x, rfl, _⟩ := h
    rfl
  obtain ⟨dl, cl, x, rfl, D, q⟩ := h
  refine ⟨_, pss_one (ps_ret (pe_ix ix_seq (pv 1) (pe_call G hr rfl mG kG bG .nil pass0 (pa_cons (pv 0) (pa_cons (pe_callB call_len (by rfl) ml PySem.boot_len (pa_cons (pv 1) pa_nil)) pa_nil))) (fun _ _ => rfl))), ?_⟩
  rcases q with ⟨a, xs, rfl, n1, n2, ha, l1, l2, q⟩ | ⟨z, rfl, l1, l2, q⟩
  · refine ⟨_, rfl, _, rfl, _, rfl, _, _, rfl, .inl ⟨_, SqL.of ha, rfl⟩, dl, cl, _, rfl, D, by omega, by omega, fun r H' r0 r1 D' k' => ?_⟩
    obtain ⟨n, rfl⟩ := Int.eq_ofNat_of_zero_le r0
    have hn : n < xs.length := by omega
    have e := List.getElem?_eq_getElem hn
    refine .inl ⟨_, _, _, _, rfl, rfl, SqL.of (k' a _ n1 n2 ha), atI_nat e, ?_⟩
    exact q n _ H' e D' k'
  · refine ⟨_, rfl, _, rfl, _, rfl, _, _, rfl, ⟨?_, rfl⟩, dl, cl, _, rfl, D, by omega, by omega, fun r H' r0 r1 D' k' => ?_⟩
    · exact Nat.le_of_lt (small1000 l2)
    obtain ⟨n, rfl⟩ := Int.eq_ofNat_of_zero_le r0
    have hn : n < z.cps.toList.length := by
      have e0 : z.cps.toList.length = z.length := by
        rw [Array.length_toList]
        rfl
      omega
    have e := List.getElem?_eq_getElem hn
    refine .inr (.inr ⟨_, _, _, rfl, rfl, Nat.le_of_lt (small1000 l2), atI_nat e, ?_⟩)
    exact q _ H' (List.getElem_mem hn) D' k'
end
end L2.K0


namespace L2.K0
open PySem L2 L2.Bv
theorem scT : FnScope ["deal", "depth", "form", "parts", "number", "text", "turn"] ["deal", "depth"] (defScope sThing) := ⟨rfl, rfl, rfl, by decide +kernel, rfl, by decide +kernel, by decide +kernel⟩
def bk : Nat → Nat
  | 0 => 8
  | n + 1 => 3 * (bk n + 1)
theorem bk8 : ∀ n, 8 ≤ bk n
  | 0 => Nat.le_refl _
  | n + 1 => by
    have q := bk8 n
    show 8 ≤ 3 * (bk n + 1)
    omega
/-- data that repr shows: of few signs, not deep -/
structure Good (k : Nat) (d : PyData) : Prop where
  short : d.leavesShort 13 = true
  shows : d.showable = true
  plain : d.hasDict = false
  deep : d.depth ≤ k
  small : d.bulk ≤ bk k
theorem goodNon (k : Nat) : Good k .none := ⟨by simp [PyData.leavesShort], by simp [PyData.showable], by simp [PyData.hasDict], by simp [PyData.depth], by simp [PyData.bulk]⟩
theorem goodBl (k : Nat) (b : Bool) : Good k (.bool b) := ⟨by simp [PyData.leavesShort], by simp [PyData.showable], by simp [PyData.hasDict], by simp [PyData.depth], by simp [PyData.bulk]⟩
theorem logSmall {n : Nat} (h : n < 10 ^ 12) : n.log2 < 1920 := by
  by_cases z : n = 0
  · rw [z]
    decide
  · have h1 := (Nat.log2_lt z (k := 1920)).mpr (Nat.lt_trans h (by decide +kernel))
    exact h1
theorem goodInt (k : Nat) {m : Int} (h : m.natAbs < 10 ^ 12) : Good k (.int m) := ⟨by
  simp only [PyData.leavesShort, decide_eq_true_eq]
  exact PyData.shown_int_le h, by simp only [PyData.showable, decide_eq_true_eq]; exact logSmall h, by simp [PyData.hasDict], by simp [PyData.depth], by simp [PyData.bulk]⟩
theorem goodStr (k : Nat) {z : Str} (h : Few 8 z) : Good k (.str z) := ⟨by
  simp only [PyData.leavesShort, List.all_eq_true, decide_eq_true_eq]
  intro c hc
  exact Nat.lt_trans (h.2 c hc) (by decide), by simp [PyData.showable], by simp [PyData.hasDict], by simp [PyData.depth], by
  simp only [PyData.bulk]
  exact Nat.le_trans h.1 (bk8 k)⟩
theorem goodAll {j : Nat} : ∀ ds : List PyData, (∀ d ∈ ds, Good j d) → PyData.leavesShortAll 13 ds = true ∧ PyData.showableAll ds = true ∧ PyData.hasDictAll ds = false ∧ PyData.depthAll ds ≤ j ∧ PyData.bulkAll ds ≤ ds.length * (bk j + 1)
  | [], _ => ⟨by simp [PyData.leavesShortAll], by simp [PyData.showableAll], by simp [PyData.hasDictAll], by simp [PyData.depthAll], by simp [PyData.bulkAll]⟩
  | d :: r, h => by
    obtain ⟨a1, a2, a3, a4, a5⟩ := goodAll r fun z hz => h z (List.mem_cons_of_mem _ hz)
    obtain ⟨b1, b2, b3, b4, b5⟩ := h d List.mem_cons_self
    refine ⟨by simp [PyData.leavesShortAll, a1, b1], by simp [PyData.showableAll, a2, b2], by simp [PyData.hasDictAll, a3, b3], by simp only [PyData.depthAll]; omega, ?_⟩
    simp only [PyData.bulkAll, List.length_cons, Nat.succ_mul]
    omega
theorem goodList {j : Nat} {ds : List PyData} (h : ∀ d ∈ ds, Good j d) (l : ds.length ≤ 3) : Good (j + 1) (.list ds) ∧ Good (j + 1) (.tuple ds) := by
  obtain ⟨a1, a2, a3, a4, a5⟩ := goodAll ds h
  have a6 : PyData.bulkAll ds ≤ bk (j + 1) := by
    refine Nat.le_trans a5 ?_
    show ds.length * (bk j + 1) ≤ 3 * (bk j + 1)
    exact Nat.mul_le_mul_right _ l
  exact ⟨⟨by simpa [PyData.leavesShort] using a1, by simpa [PyData.showable] using a2, by simpa [PyData.hasDict] using a3, by simp only [PyData.depth]; omega, by simpa only [PyData.bulk] using a6⟩,
    ⟨by simpa [PyData.leavesShort] using a1, by simpa [PyData.showable] using a2, by simpa [PyData.hasDict] using a3, by simp only [PyData.depth]; omega, by simpa only [PyData.bulk] using a6⟩⟩
theorem dpSnoc {K : PySem.W.Frag} {H : Hp} {v : V} {d : PyData} (h : Dp K H v d) : ∀ {vs : List V} {ds : List PyData}, DpAll K H vs ds → DpAll K H (vs ++ [v]) (ds ++ [d])
  | [], _, .nil => .cons h .nil
  | _ :: _, _, .cons a r => .cons a (dpSnoc h r)
theorem noneBack {dl cl x : Addr} {H H' : Hp} (k : Keep dl cl H H') (D : DealAt H' dl cl) (h : H' x = none) : H x = none := by
  obtain ⟨cs, m, e1, e2, _⟩ := D.ex
  cases e : H x with
  | none => rfl
  | some u =>
    by_cases n1 : x = dl
    · rw [n1, e1] at h
      cases h
    · by_cases n2 : x = cl
      · rw [n2, e2] at h
        cases h
      · rw [k x u n1 n2 e] at h
        cases h
theorem dealOff {dl cl x : Addr} {H : Hp} (D : DealAt H dl cl) (h : H x = none) : x ≠ dl ∧ x ≠ cl := by
  obtain ⟨cs, m, e1, e2, _⟩ := D.ex
  constructor
  · intro z
    rw [z, e1] at h
    cases h
  · intro z
    rw [z, e2] at h
    cases h
theorem signs128 : ∀ c ∈ ("abcxyz ABZ09.," : Str).cps.toList, c < 128 := by decide +kernel
/-- what is new at H' stands as it is -/
def NewK (H H' H'' : Hp) : Prop := ∀ x o, H x = none → H' x = some o → H'' x = some o
def spThing (K : PySem.W.Frag) (n : Nat) : Sp := fun vs H Q _ => ∃ (dl cl : Addr) (k : Nat), vs = [.ref dl, .int k] ∧ k + 1 = n ∧ DealAt H dl cl ∧
  ∀ (v : V) (H' : Hp) (d : PyData), DealAt H' dl cl → Keep dl cl H H' → (∀ H'', NewK H H' H'' → Dp K H'' v d) → Good k d → Q v H'
section
variable {P : Program} {w : World} {K : PySem.W.Frag} {mg : Str → Option Value} {base : Heap}
theorem ok_thing {f g o : Addr} {fd gd od : FuncData} {n : Nat} (F : Fun K "_law_thing" "_law_thing" sThing f fd) (R : FnOk P w K mg base CX0 (n + 2) f fd ["deal", "depth"] (spThing K n)) (bF : Binds K fd ["deal", "depth"] []) (mF : mg "_law_thing" = some (.ref f))
    (G : FnOk P w K mg base CX0 1 g gd ["deal", "bound"] spAny) (kG : PySem.W.keepIn K (.ref g) = true) (bG : Binds K gd ["deal", "bound"] []) (mG : mg "_law_any" = some (.ref g))
    (O : FnOk P w K mg base CX0 2 o od ["deal", "some"] spOf) (kO : PySem.W.keepIn K (.ref o) = true) (bO : Binds K od ["deal", "some"] []) (mO : mg "_law_of" = some (.ref o))
    (mr : mg "range" = none) (mt : mg "tuple" = none) : FnOk P w K mg base CX0 (n + 3) f fd ["deal", "depth"] (spThing K (n + 1)) := by
  refine F.ok scT (fun vs H Q E h => ?_) (fun cdv A outer s H vs Q E hr h => ?_)
  · obtain ⟨dl, cl, k, rfl, _⟩ := h
    rfl
  obtain ⟨dl, cl, k, rfl, kn, D, q⟩ := h
  have hr1 : Room 1 _ := hr.mono (by omega)
  have hr2 : Room 2 _ := hr.mono (by omega)
  refine ⟨_, pss_cons (ps_set (i := 2) scT.nd rfl (Or.inl rfl) (pe_call G hr1 rfl mG kG bG .nil pass0 (pa_cons (pv 0) (pa_cons pe_int pa_nil))))
    (pss_cons (ps_if (PW.pt (pw_and (pt_cmpR op_lt (pv 2) pe_int (nomark _)) (pw_and1 (pt_cmpR op_gt (pv 1) pe_int (nomark _)))))
      (pss_cons (ps_setLc (i := 3) (own := [("turn", 6)]) (g := gName 6) (tt := tYes) rfl scT.nd rfl rfl (sw_true rfl rfl rfl (by decide +kernel)) (pi_range1 (by rfl) mr (pa_cons (pe_call G hr1 rfl mG kG bG .nil pass0 (pa_cons (pv 0) (pa_cons pe_int pa_nil))) pa_nil))
        (blkOk_by (N := ["deal", "depth", "form", "parts", "number", "text", "turn"]) (sc := defScope sThing) (by decide +kernel)) (fun _ _ _ _ _ => pg_name (i := 6) scT.nd rfl (Or.inl rfl)) (fun _ _ _ _ _ => pts_nil)
        (fun _ _ _ _ _ => pe_call R hr rfl mF F.kp bF .nil pass0 (pa_cons (pv 0) (pa_cons (pe_op op_sub (pv 1) pe_int) pa_nil))))
      (pss_one (ps_ret (pe_ifExp (pt_cmpR op_eq (pv 2) pe_int (nomark _)) (pv 3) (pe_callTy call_tuple_of (by rfl) mt (by decide +kernel) (pa_cons (pv 3) pa_nil)))))) pss_nil)
    (pss_cons (ps_set (i := 4) scT.nd rfl (Or.inl rfl) (pe_call O hr2 rfl mO kO bO .nil pass0 (pa_cons (pv 0) (pa_cons (pe_lst (pa_cons pe_int (pa_cons pe_int (pa_cons pe_int (pa_cons pe_int (pa_cons
        (pe_call G hr1 rfl mG kG bG .nil pass0 (pa_cons (pv 0) (pa_cons (pe_op op_pow pe_int pe_int) pa_nil))) pa_nil)))))) pa_nil))))
    (pss_cons (ps_set (i := 5) scT.nd rfl (Or.inl rfl) (pe_join pe_str (pe_lc (own := [("turn", 6)]) (g := gName 6) (tt := tYes) rfl scT.nd (pi_range1 (by rfl) mr (pa_cons (pe_call G hr1 rfl mG kG bG .nil pass0 (pa_cons (pv 0) (pa_cons pe_int pa_nil))) pa_nil))
        (blkOk_by (N := ["deal", "depth", "form", "parts", "number", "text", "turn"]) (sc := defScope sThing) (by decide +kernel)) (fun _ _ _ _ _ => pg_name (i := 6) scT.nd rfl (Or.inl rfl)) (fun _ _ _ _ _ => pts_nil)
        (fun _ _ _ _ _ => pe_call O hr2 rfl mO kO bO .nil pass0 (pa_cons (pv 0) (pa_cons pe_str pa_nil))))))
    (pss_one (ps_ret (pe_call O hr2 rfl mO kO bO .nil pass0 (pa_cons (pv 0) (pa_cons (pe_lst (pa_cons pe_non (pa_cons pe_bl (pa_cons pe_bl (pa_cons (pv 4) (pa_cons (pe_op op_sub pe_int (pv 4)) (pa_cons (pv 5) (pa_cons (pv 5) (pa_cons pe_str pa_nil))))))))) pa_nil)))))))), ?_⟩
  obtain rfl : k = n := by omega
  -- form = _law_any(deal, 9)
  refine ⟨_, rfl, dl, cl, _, rfl, D, by decide, by decide, fun fm H1 f0 f1 D1 k1 => ?_⟩
  dsimp only [gName]
  refine (seqIfS (fun H2 => DealAt H2 dl cl ∧ Keep dl cl H H2) ?_ ?_)
  · rintro H2 ⟨D2, k2⟩
    -- number
    refine ⟨_, rfl, _, rfl, _, _, rfl, rfl, ⟨by decide, by decide, by decide⟩, dl, cl, _, rfl, D2, by decide, by decide, fun r H3 r0 r1 D3 k3 => ⟨(by show 5 ≤ sizeLine; decide), fun l hl => ?_⟩⟩
    have hr9 : r < 1000000000 := r1
    have ld : l ≠ dl := fun z => by
      obtain ⟨cs, m, h1, _⟩ := D3.ex
      rw [z, h1] at hl
      cases hl
    have lc : l ≠ cl := fun z => by
      obtain ⟨cs, m, _, h1, _⟩ := D3.ex
      rw [z, h1] at hl
      cases hl
    refine ⟨dl, cl, _, rfl, D3.new _ hl, .inl ⟨l, _, rfl, ld, lc, upd_same, (by show 1 ≤ 5; decide), (by show 5 ≤ 1000; decide), fun i v H4 hi D4 k4 => ?_⟩⟩
    obtain ⟨m, rfl, hm⟩ : ∃ m : Int, v = .int m ∧ m.natAbs < 10 ^ 12 := by
      match i, hi with
      | 0, hi => exact ⟨0, (Option.some.inj hi).symm, by decide⟩
      | 1, hi => exact ⟨1, (Option.some.inj hi).symm, by decide⟩
      | 2, hi => exact ⟨2, (Option.some.inj hi).symm, by decide⟩
      | 3, hi => exact ⟨7, (Option.some.inj hi).symm, by decide⟩
      | 4, hi => exact ⟨r, (Option.some.inj hi).symm, by omega⟩
      | i + 5, hi => cases hi
    have k24 : Keep dl cl H H4 := k2.trans (k3.trans ((Keep.new _ hl).trans k4))
    -- text
    refine ⟨⟨_, rfl⟩, _, rfl, dl, cl, _, rfl, D4, by decide, by decide, fun t H5 t0 t1 D5 k5 => ⟨_, rfl, by omega, by omega, fun L hL => ?_⟩⟩
    have Ld : L ≠ dl := fun z => by
      obtain ⟨cs, m, h1, _⟩ := D5.ex
      rw [z, h1] at hL
      cases hL
    have Lc : L ≠ cl := fun z => by
      obtain ⟨cs, m, _, h1, _⟩ := D5.ex
      rw [z, h1] at hL
      cases hL
    refine lc_range (lo := 0) (n := t.toNat) (fun i H' => DealAt H' dl cl ∧ Keep dl cl H5 H' ∧ ∃ ys : List Str, H' L = some (.lst (ys.map V.str)) ∧ ys.length = i ∧ ∀ y ∈ ys, Few 1 y) ⟨D5.new _ hL, Keep.new _ hL, [], upd_same, rfl, fun y hy => absurd hy (by simp)⟩ ?_ ?_
    · rintro i H6 hi ⟨D6, k6, ys, e1, e2, e3⟩
      refine ⟨rfl, yesT (iteT ⟨_, rfl, dl, cl, _, rfl, D6, .inr ⟨_, rfl, by decide +kernel, by decide +kernel, fun c H7 hc D7 k7 => ⟨_, k7 L _ Ld Lc e1, ?_, D7.new' Ld Lc, ?_, ys ++ [⟨#[c]⟩], ?_, ?_, ?_⟩⟩⟩)⟩
      · rw [List.length_map]
        exact small1000 (by omega)
      · exact (k6.trans k7).onto L hL
      · rw [upd_same, List.map_append]
        rfl
      · rw [List.length_append, e2]
        rfl
      · intro y hy
        rcases List.mem_append.mp hy with z | z
        · exact e3 y z
        · rw [List.mem_singleton.mp z]
          refine ⟨Nat.le_refl _, fun c' hc' => ?_⟩
          have e : c' = c := List.mem_singleton.mp hc'
          rw [e]
          exact signs128 c hc
    · rintro H6 ⟨D6, k6, ys, e1, e2, e3⟩
      have ly : ys.length ≤ 8 := by omega
      have sz := few_sum ys e3
      refine ⟨_, _, ys, rfl, rfl, .inl (SqL.of e1), by
        show (ys.map (·.length)).sum + ys.length * Str.length Str.empty ≤ 16777216
        have z0 : Str.length Str.empty = 0 := rfl
        rw [z0]
        omega, ?_⟩
      have ft : Few 8 (Txt.join Str.empty ys) := by
        have z1 := few_join ys e3
        have z2 : Txt.join Str.empty ys = Str.join Str.empty ys := StrLaws.glued_eq_join _ _
        rw [z2]
        exact ⟨Nat.le_trans z1.1 ly, z1.2⟩
      have k26 : Keep dl cl H H6 := k24.trans (k5.trans k6)
      -- return _law_of(deal, [..])
      refine ⟨_, rfl, _, rfl, _, rfl, _, _, rfl, rfl, _, rfl, _, rfl, (by show 8 ≤ sizeLine; decide), fun l2 hl2 => ?_⟩
      have l2d : l2 ≠ dl := fun z => by
        obtain ⟨cs, m, h1, _⟩ := D6.ex
        rw [z, h1] at hl2
        cases hl2
      have l2c : l2 ≠ cl := fun z => by
        obtain ⟨cs, m, _, h1, _⟩ := D6.ex
        rw [z, h1] at hl2
        cases hl2
      refine ⟨dl, cl, _, rfl, D6.new _ hl2, .inl ⟨l2, _, rfl, l2d, l2c, upd_same, (by show 1 ≤ 8; decide), (by show 8 ≤ 1000; decide), fun i v H7 hi D7 k7 => ?_⟩⟩
      have k27 : Keep dl cl H H7 := k26.trans ((Keep.new _ hl2).trans k7)
      match i, hi with
      | 0, hi =>
        obtain rfl := Option.some.inj hi
        exact q _ H7 .none D7 k27 (fun _ _ => .non) (goodNon k)
      | 1, hi =>
        obtain rfl := Option.some.inj hi
        exact q _ H7 (.bool true) D7 k27 (fun _ _ => .bl true) (goodBl k true)
      | 2, hi =>
        obtain rfl := Option.some.inj hi
        exact q _ H7 (.bool false) D7 k27 (fun _ _ => .bl false) (goodBl k false)
      | 3, hi =>
        obtain rfl := Option.some.inj hi
        exact q _ H7 (.int m) D7 k27 (fun _ _ => .int m) (goodInt k hm)
      | 4, hi =>
        obtain rfl := Option.some.inj hi
        exact q _ H7 (.int (0 - m)) D7 k27 (fun _ _ => .int (0 - m)) (goodInt k (by omega))
      | 5, hi =>
        obtain rfl := Option.some.inj hi
        exact q _ H7 (.str _) D7 k27 (fun _ _ => .str _) (goodStr k ft)
      | 6, hi =>
        obtain rfl := Option.some.inj hi
        exact q _ H7 (.str _) D7 k27 (fun _ _ => .str _) (goodStr k ft)
      | 7, hi =>
        obtain rfl := Option.some.inj hi
        exact q _ H7 (.str _) D7 k27 (fun _ _ => .str _) (goodStr k ⟨by decide +kernel, by decide +kernel⟩)
      | i + 8, hi => cases hi
  · intro rest
    refine ⟨_, rfl, _, _, rfl, rfl, _, rfl, ?_⟩
    refine ite2 (fun c1 => ?_) (fun c1 => iteF (rest H1 ⟨D1, k1⟩))
    refine ⟨_, rfl, _, _, rfl, rfl, _, rfl, ?_⟩
    refine ite2 (fun c2 => ?_) (fun c2 => rest H1 ⟨D1, k1⟩)
    have kpos : 0 < k := by
      have z := of_decide_eq_true c2
      omega
    obtain ⟨j, rfl⟩ : ∃ j, k = j + 1 := ⟨k - 1, by omega⟩
    -- parts
    refine ⟨_, rfl, dl, cl, _, rfl, D1, by decide, by decide, fun t H5 t0 t1 D5 k5 => ⟨_, rfl, by omega, by omega, fun L hL => ?_⟩⟩
    obtain ⟨Ld, Lc⟩ := dealOff D5 hL
    refine lc_range (lo := 0) (n := t.toNat) (fun i H' => DealAt H' dl cl ∧ Keep dl cl H5 H' ∧ ∃ (vs : List V) (ds : List PyData), H' L = some (.lst vs) ∧ vs.length = i ∧ ds.length = i ∧ (∀ d ∈ ds, Good j d) ∧
      ∀ H'' : Hp, (∀ x o, H5 x = none → x ≠ L → H' x = some o → H'' x = some o) → DpAll K H'' vs ds) ⟨D5.new _ hL, Keep.new _ hL, [], [], upd_same, rfl, rfl, fun d hd => absurd hd (by simp), fun _ _ => .nil⟩ ?_ ?_
    · rintro i H6 hi ⟨D6, k6, vs, ds, e1, e2, e3, e4, e5⟩
      have ej : ((j + 1 : Nat) : Int) - 1 = (j : Int) := by omega
      refine ⟨rfl, yesT (iteT ⟨_, rfl, _, rfl, _, _, rfl, rfl, dl, cl, j, congrArg (fun z : Int => [V.ref dl, V.int z]) ej, rfl, D6, fun v H7 d D7 k7 st gd => ⟨vs, k7 L _ Ld Lc e1, small1000 (by omega), D7.new' Ld Lc, (k6.trans k7).onto L hL, vs ++ [v], ds ++ [d], upd_same, ?_, ?_, ?_, ?_⟩⟩)⟩
      · rw [List.length_append, e2]
        rfl
      · rw [List.length_append, e3]
        rfl
      · intro z hz
        rcases List.mem_append.mp hz with y | y
        · exact e4 z y
        · rw [List.mem_singleton.mp y]
          exact gd
      · intro H'' hh
        refine dpSnoc (st H'' fun x u n1 n2 => ?_) (e5 H'' fun x u n1 n2 n3 => ?_)
        · have xL : x ≠ L := fun z => by
            rw [z, e1] at n1
            cases n1
          refine hh x u (noneBack k6 D6 n1) xL ?_
          rw [upd_ne xL]
          exact n2
        · obtain ⟨xd, xc⟩ := dealOff D5 n1
          refine hh x u n1 n2 ?_
          rw [upd_ne n2]
          exact k7 x u xd xc n3
    · rintro H6 ⟨D6, k6, vs, ds, e1, e2, e3, e4, e5⟩
      have l3 : ds.length ≤ 3 := by omega
      obtain ⟨gl, gt⟩ := goodList e4 l3
      have k15 : Keep dl cl H H5 := k1.trans k5
      have k16 : Keep dl cl H H6 := k15.trans k6
      have hLH : H L = none := noneBack k15 D5 hL
      refine ⟨_, rfl, rfl, _, rfl, ?_⟩
      refine ite2 (fun _ => ?_) (fun _ => ?_)
      · refine ⟨_, rfl, ?_⟩
        exact q (.ref L) H6 (.list ds) D6 k16 (fun H'' nk => .lst (SqL.of (nk L _ hLH e1)) (e5 H'' fun x u n1 n2 n3 => nk x u (noneBack k15 D5 n1) n3)) gl
      · refine ⟨_, rfl, _, _, rfl, .inl ⟨SqL.of e1, fun l hl => ?_⟩⟩
        refine q (.ref l) _ (.tuple ds) (D6.new _ hl) (k16.onto l (noneBack k16 D6 hl)) (fun H'' nk => .tup (SqT.of (nk l _ (noneBack k16 D6 hl) upd_same)) (e5 H'' fun x u n1 n2 n3 => nk x u (noneBack k15 D5 n1) ?_)) gt
        rw [upd_ne (ne_of_none n3 hl)]
        exact n3
end
end L2.K0


namespace L2.Bv
open PySem PySem.Spec PyProof.Rows Bov
/-- what gives such an exception makes one that can be raised -/
theorem pmkEx {X : Cx} {e : Expr} {te : TE} (hx : X.ex = []) (he : PE X e te) :
    PMk X e (fun σ H Q => te σ H fun x H1 => ∃ (a C : Addr) (bm : List Value) (d : Option Addr), x = .ref a ∧ EC X.K C bm ∧ H1 a = some (exo a C d) ∧ X.H_0 a = none ∧ Q (.ref C) d (delH H1 a)) := by
  intro pins s σ H Q I h
  refine thn (he.run pins s σ H _ I h) fun u s1 ⟨v, H1, I1, r1, a, C, bm, d, ev, T, ea, h0, q⟩ => ?_
  subst ev
  obtain rfl : u = Value.ref a := r1
  obtain ⟨t1, ho⟩ := exo_at I1.hok ea
  obtain ⟨G, gs, ga, J⟩ := I1.untrack ea (fr0_none h0) hx
  exact ⟨a, _, _, { s1 with heap := G }, delH H1 a, .ref C, d, rfl, J, gs, ga, ho, ⟨rfl, rfl⟩, rfl, rfl, delH_same, rfl, I1.bare, raises_own T.exC T.tyC, q⟩
end L2.Bv


namespace L2.K0
open PySem L2 L2.Bv Bov
abbrev exT : List Value := [.type "Exception", .type "BaseException", .type "object"]
abbrev keT : List Value := [.type "KeyError", .type "LookupError", .type "Exception", .type "BaseException", .type "object"]
abbrev bmP (pa : Addr) : List Value := .ref pa :: exT
def bmOf (pa : Addr) (n : Nat) : List Value := if n = 9 then keT else bmP pa
def fld (n : Nat) : Str := if n = 9 then "name" else if n = 7 ∨ n = 8 then "word" else "at"
structure Tab (P : Program) (w : World) (K : PySem.W.Frag) (mg : Str → Option Value) (base : Heap) (C : Nat → Addr) (pa : Addr) : Prop where
  m0 : ExM P w K mg base (C 0) "at" (bmP pa) "InvalidPact"
  m1 : ExM P w K mg base (C 1) "at" (bmP pa) "InvalidText"
  m2 : ExM P w K mg base (C 2) "at" (bmP pa) "InvalidFamily"
  m3 : ExM P w K mg base (C 3) "at" (bmP pa) "InvalidMoment"
  m4 : ExM P w K mg base (C 4) "at" (bmP pa) "InvalidRun"
  m5 : ExM P w K mg base (C 5) "at" (bmP pa) "InvalidAsk"
  m6 : ExM P w K mg base (C 6) "at" (bmP pa) "InvalidRow"
  m7 : ExM P w K mg base (C 7) "word" (bmP pa) "InvalidSize"
  m8 : ExM P w K mg base (C 8) "word" (bmP pa) "Refused"
  m9 : ExM P w K mg base (C 9) "name" keT "NoName"
  m11 : ExM P w K mg base (C 11) "at" (bmP pa) "InvalidOffices"
  c10 : EC K (C 10) (bmP pa)
  x10 : PySem.W.excIn K (C 10) exT "Exception.__new__" = true
  g10 : mg "InvalidCommand" = some (.ref (C 10))
  cp : EC K pa exT
  xp : PySem.W.excIn K pa exT "Exception.__new__" = true
  gp : mg "PactError" = some (.ref pa)
  apart : ∀ i j, i < 12 → j < 12 → C i = C j → i = j
  offP : ∀ i, i < 12 → C i ≠ pa
  hn : PySem.W.specialIn K (.builtin "object.__class__") "__get__" = some (some (.builtin "getset_descriptor.__get__"))
  ht : PySem.W.takesIn K (.builtin "object.__class__") = some true
section
variable {P : Program} {w : World} {K : PySem.W.Frag} {mg : Str → Option Value} {base : Heap} {C : Nat → Addr} {pa : Addr}
theorem Tab.ec (T : Tab P w K mg base C pa) {n : Nat} (h : n < 12) : EC K (C n) (bmOf pa n) := by
  match n, h with
  | 0, _ => exact T.m0.ec
  | 1, _ => exact T.m1.ec
  | 2, _ => exact T.m2.ec
  | 3, _ => exact T.m3.ec
  | 4, _ => exact T.m4.ec
  | 5, _ => exact T.m5.ec
  | 6, _ => exact T.m6.ec
  | 7, _ => exact T.m7.ec
  | 8, _ => exact T.m8.ec
  | 9, _ => exact T.m9.ec
  | 10, _ => exact T.c10
  | 11, _ => exact T.m11.ec
  | n + 12, h => omega
theorem Tab.no (T : Tab P w K mg base C pa) {n : Nat} (h : n < 12) (h10 : n ≠ 10) : PySem.W.findIn K (.ref (C n)) (fld n) = some none := by
  match n, h with
  | 0, _ => exact T.m0.no
  | 1, _ => exact T.m1.no
  | 2, _ => exact T.m2.no
  | 3, _ => exact T.m3.no
  | 4, _ => exact T.m4.no
  | 5, _ => exact T.m5.no
  | 6, _ => exact T.m6.no
  | 7, _ => exact T.m7.no
  | 8, _ => exact T.m8.no
  | 9, _ => exact T.m9.no
  | 10, _ => exact absurd rfl h10
  | 11, _ => exact T.m11.no
  | n + 12, h => omega
theorem refNe {a b : Addr} (h : a ≠ b) : (Value.ref a == Value.ref b) = false := beq_eq_false_iff_ne.mpr fun z => h (Value.ref.inj z)
theorem kitRef {t : Value} {D : Addr} {bm : List Value} {b : Bool} (T : EC K D bm) (ne : (t == Value.ref D) = false) (s : PySem.W.subIn K t (.ref D) = some b) : PySem.W.kitOne K t (.ref D) = some b := by
  have h1 := T.clC
  have h2 := T.tyC
  unfold PySem.W.isClsIn at h1
  unfold PySem.W.kitOne
  rw [ne, if_neg Bool.false_ne_true]
  show (if ((PySem.W.clsIn K D).isSome && PySem.W.typeIn K (.ref D) == some (.type "type")) = true then PySem.W.subIn K t (.ref D) else none) = some b
  rw [h1, h2, if_pos (by decide +kernel)]
  exact s
theorem kitTy {C' : Addr} {bm : List Value} {T : String} (E : EC K C' bm) (m : PySem.W.kitMeta T = true) : PySem.W.kitOne K (.ref C') (.type T) = some (bm.contains (.type T)) := by
  unfold PySem.W.kitOne
  have ne : (Value.ref C' == Value.type T) = false := rfl
  rw [ne, if_neg Bool.false_ne_true]
  show (if PySem.W.kitMeta T = true then PySem.W.subIn K (.ref C') (.type T) else none) = _
  rw [if_pos m, E.sub, List.contains_cons]
  rfl
theorem bmNo {a : Addr} {pa : Addr} (n : Nat) (h : a ≠ pa) : (bmOf pa n).contains (Value.ref a) = false := by
  unfold bmOf
  split
  · rfl
  · show (Value.ref a == Value.ref pa || exT.contains (Value.ref a)) = false
    rw [refNe h]
    rfl
theorem Tab.kOwn (T : Tab P w K mg base C pa) {n m : Nat} (hn : n < 12) (hm : m < 12) : PySem.W.kitOne K (.ref (C n)) (.ref (C m)) = some (decide (n = m)) := by
  by_cases e : n = m
  · subst e
    unfold PySem.W.kitOne
    rw [if_pos (beq_self_eq_true _), decide_eq_true rfl]
  · have ne : C n ≠ C m := fun z => e (T.apart n m hn hm z)
    rw [decide_eq_false e]
    refine kitRef (T.ec hm) (refNe ne) ?_
    rw [(T.ec hn).sub, List.contains_cons, refNe ne.symm, bmNo n (T.offP m hm)]
    rfl
theorem Tab.kPact (T : Tab P w K mg base C pa) {n : Nat} (hn : n < 12) : PySem.W.kitOne K (.ref (C n)) (.ref pa) = some (decide (n ≠ 9)) := by
  refine kitRef T.cp (refNe (T.offP n hn)) ?_
  rw [(T.ec hn).sub, List.contains_cons, refNe (T.offP n hn).symm]
  unfold bmOf
  by_cases e : n = 9
  · rw [if_pos e, decide_eq_false (by omega)]
    rfl
  · rw [if_neg e, decide_eq_true e]
    show some (false || (Value.ref pa == Value.ref pa || exT.contains (Value.ref pa))) = some true
    rw [beq_self_eq_true]
    rfl
theorem Tab.kExc (T : Tab P w K mg base C pa) {n : Nat} (hn : n < 12) : PySem.W.kitOne K (.ref (C n)) (.type "Exception") = some true := by
  rw [kitTy (T.ec hn) (by decide +kernel)]
  unfold bmOf
  split <;> rfl
theorem Tab.kVal (T : Tab P w K mg base C pa) {n : Nat} (hn : n < 12) : PySem.W.kitOne K (.ref (C n)) (.type "ValueError") = some false := by
  rw [kitTy (T.ec hn) (by decide +kernel)]
  unfold bmOf
  split <;> rfl
theorem Tab.kKey (T : Tab P w K mg base C pa) {n : Nat} (hn : n < 12) : PySem.W.kitOne K (.ref (C n)) (.type "KeyError") = some (decide (n = 9)) := by
  rw [kitTy (T.ec hn) (by decide +kernel)]
  unfold bmOf
  by_cases e : n = 9
  · rw [if_pos e, decide_eq_true e]
    rfl
  · rw [if_neg e, decide_eq_false e]
    rfl
theorem scM : FnScope ["number", "thing", "named"] ["number", "thing", "named"] (defScope sMade) := ⟨rfl, rfl, rfl, by decide +kernel, rfl, by decide +kernel, by decide +kernel⟩
def spMade (C : Nat → Addr) : Sp := fun vs H Q _ => ∃ (n : Nat) (v : V) (b : Bool), vs = [.int n, v, .bl b] ∧ n < 12 ∧
  (n ≠ 10 → ∀ a d, H a = none → H d = none → d ≠ a → Q (.ref a) (upd (upd H d (exd d [(fld n, v)])) a (exo a (C n) (some d)))) ∧ (n = 10 → ∀ a, H a = none → Q (.ref a) (upd H a (exo a (C 10) none)))
theorem iteNo {a b : V} {A B : Prop} (h : a ≠ b) (q : B) : if decide (a = b) = true then A else B := by
  rw [if_neg (by rw [decide_eq_false h]; exact Bool.false_ne_true)]
  exact q
theorem iteYes {a b : V} {A B : Prop} (h : a = b) (q : A) : if decide (a = b) = true then A else B := by
  rw [if_pos (decide_eq_true h)]
  exact q
theorem ok_made {f : Addr} {fd : FuncData} (F : Fun K "_law_made" "_law_made" sMade f fd) (T : Tab P w K mg base C pa) : FnOk P w K mg base CX0 3 f fd ["number", "thing", "named"] (spMade C) := by
  refine F.ok scM (fun vs H Q E h => ?_) (fun cdv A outer s H vs Q E hr h => ?_)
  · obtain ⟨n, v, b, rfl, _⟩ := h
    rfl
  obtain ⟨n, v, b, rfl, hn, q, q10⟩ := h
  refine ⟨_, pss_cons (ps_if (pt_cmpR op_eq (pv 0) pe_int (nomark _)) (pss_one (ps_ret (pe_ifExp (pt_val (pv 2)) (peExK T.m0 hr (pv 1)) (peEx T.m0 hr (pv 1))))) pss_nil)
    (pss_cons (ps_if (pt_cmpR op_eq (pv 0) pe_int (nomark _)) (pss_one (ps_ret (pe_ifExp (pt_val (pv 2)) (peExK T.m1 hr (pv 1)) (peEx T.m1 hr (pv 1))))) pss_nil)
    (pss_cons (ps_if (pt_cmpR op_eq (pv 0) pe_int (nomark _)) (pss_one (ps_ret (pe_ifExp (pt_val (pv 2)) (peExK T.m2 hr (pv 1)) (peEx T.m2 hr (pv 1))))) pss_nil)
    (pss_cons (ps_if (pt_cmpR op_eq (pv 0) pe_int (nomark _)) (pss_one (ps_ret (pe_ifExp (pt_val (pv 2)) (peExK T.m3 hr (pv 1)) (peEx T.m3 hr (pv 1))))) pss_nil)
    (pss_cons (ps_if (pt_cmpR op_eq (pv 0) pe_int (nomark _)) (pss_one (ps_ret (pe_ifExp (pt_val (pv 2)) (peExK T.m4 hr (pv 1)) (peEx T.m4 hr (pv 1))))) pss_nil)
    (pss_cons (ps_if (pt_cmpR op_eq (pv 0) pe_int (nomark _)) (pss_one (ps_ret (pe_ifExp (pt_val (pv 2)) (peExK T.m5 hr (pv 1)) (peEx T.m5 hr (pv 1))))) pss_nil)
    (pss_cons (ps_if (pt_cmpR op_eq (pv 0) pe_int (nomark _)) (pss_one (ps_ret (pe_ifExp (pt_val (pv 2)) (peExK T.m6 hr (pv 1)) (peEx T.m6 hr (pv 1))))) pss_nil)
    (pss_cons (ps_if (pt_cmpR op_eq (pv 0) pe_int (nomark _)) (pss_one (ps_ret (pe_ifExp (pt_val (pv 2)) (peExK T.m7 hr (pv 1)) (peEx T.m7 hr (pv 1))))) pss_nil)
    (pss_cons (ps_if (pt_cmpR op_eq (pv 0) pe_int (nomark _)) (pss_one (ps_ret (pe_ifExp (pt_val (pv 2)) (peExK T.m8 hr (pv 1)) (peEx T.m8 hr (pv 1))))) pss_nil)
    (pss_cons (ps_if (pt_cmpR op_eq (pv 0) pe_int (nomark _)) (pss_one (ps_ret (pe_ifExp (pt_val (pv 2)) (peExK T.m9 hr (pv 1)) (peEx T.m9 hr (pv 1))))) pss_nil)
    (pss_cons (ps_if (pt_cmpR op_eq (pv 0) pe_int (nomark _)) (pss_one (ps_ret (pe_ifExp (pt_val (pv 2)) (peExK T.m11 hr (pv 1)) (peEx T.m11 hr (pv 1))))) pss_nil)
    (pss_one (ps_ret (peEx0 PySem.F.excBase_Exception T.x10 T.g10 T.c10.kC))))))))))))), ?_⟩
  have fin : ∀ {m : Nat}, n = m → m ≠ 10 → (tIf (tB (tVar 2)) (tEx (C m) (fld m) (tVar 1)) (tEx (C m) (fld m) (tVar 1))) (start ["number", "thing", "named"] [.int n, v, .bl b]) H Q := by
    rintro m rfl h10
    refine ⟨_, rfl, b, rfl, ?_⟩
    refine ite2 (fun _ => ?_) (fun _ => ?_)
    · exact ⟨_, rfl, fun a d z1 z2 z3 => q h10 a d z1 z2 z3⟩
    · exact ⟨_, rfl, fun a d z1 z2 z3 => q h10 a d z1 z2 z3⟩
  match n, hn with
  | 0, _ => refine ⟨_, rfl, rfl, _, rfl, iteYes rfl ?_⟩; exact fin rfl (by decide)
  | 1, _ => refine ⟨_, rfl, rfl, _, rfl, iteNo (by decide) ?_⟩; refine ⟨_, rfl, rfl, _, rfl, iteYes rfl ?_⟩; exact fin rfl (by decide)
  | 2, _ => refine ⟨_, rfl, rfl, _, rfl, iteNo (by decide) ?_⟩; refine ⟨_, rfl, rfl, _, rfl, iteNo (by decide) ?_⟩; refine ⟨_, rfl, rfl, _, rfl, iteYes rfl ?_⟩; exact fin rfl (by decide)
  | 3, _ => refine ⟨_, rfl, rfl, _, rfl, iteNo (by decide) ?_⟩; refine ⟨_, rfl, rfl, _, rfl, iteNo (by decide) ?_⟩; refine ⟨_, rfl, rfl, _, rfl, iteNo (by decide) ?_⟩; refine ⟨_, rfl, rfl, _, rfl, iteYes rfl ?_⟩; exact fin rfl (by decide)
  | 4, _ => refine ⟨_, rfl, rfl, _, rfl, iteNo (by decide) ?_⟩; refine ⟨_, rfl, rfl, _, rfl, iteNo (by decide) ?_⟩; refine ⟨_, rfl, rfl, _, rfl, iteNo (by decide) ?_⟩; refine ⟨_, rfl, rfl, _, rfl, iteNo (by decide) ?_⟩; refine ⟨_, rfl, rfl, _, rfl, iteYes rfl ?_⟩; exact fin rfl (by decide)
  | 5, _ => refine ⟨_, rfl, rfl, _, rfl, iteNo (by decide) ?_⟩; refine ⟨_, rfl, rfl, _, rfl, iteNo (by decide) ?_⟩; refine ⟨_, rfl, rfl, _, rfl, iteNo (by decide) ?_⟩; refine ⟨_, rfl, rfl, _, rfl, iteNo (by decide) ?_⟩; refine ⟨_, rfl, rfl, _, rfl, iteNo (by decide) ?_⟩; refine ⟨_, rfl, rfl, _, rfl, iteYes rfl ?_⟩; exact fin rfl (by decide)
  | 6, _ => refine ⟨_, rfl, rfl, _, rfl, iteNo (by decide) ?_⟩; refine ⟨_, rfl, rfl, _, rfl, iteNo (by decide) ?_⟩; refine ⟨_, rfl, rfl, _, rfl, iteNo (by decide) ?_⟩; refine ⟨_, rfl, rfl, _, rfl, iteNo (by decide) ?_⟩; refine ⟨_, rfl, rfl, _, rfl, iteNo (by decide) ?_⟩; refine ⟨_, rfl, rfl, _, rfl, iteNo (by decide) ?_⟩; refine ⟨_, rfl, rfl, _, rfl, iteYes rfl ?_⟩; exact fin rfl (by decide)
  | 7, _ => refine ⟨_, rfl, rfl, _, rfl, iteNo (by decide) ?_⟩; refine ⟨_, rfl, rfl, _, rfl, iteNo (by decide) ?_⟩; refine ⟨_, rfl, rfl, _, rfl, iteNo (by decide) ?_⟩; refine ⟨_, rfl, rfl, _, rfl, iteNo (by decide) ?_⟩; refine ⟨_, rfl, rfl, _, rfl, iteNo (by decide) ?_⟩; refine ⟨_, rfl, rfl, _, rfl, iteNo (by decide) ?_⟩; refine ⟨_, rfl, rfl, _, rfl, iteNo (by decide) ?_⟩; refine ⟨_, rfl, rfl, _, rfl, iteYes rfl ?_⟩; exact fin rfl (by decide)
  | 8, _ => refine ⟨_, rfl, rfl, _, rfl, iteNo (by decide) ?_⟩; refine ⟨_, rfl, rfl, _, rfl, iteNo (by decide) ?_⟩; refine ⟨_, rfl, rfl, _, rfl, iteNo (by decide) ?_⟩; refine ⟨_, rfl, rfl, _, rfl, iteNo (by decide) ?_⟩; refine ⟨_, rfl, rfl, _, rfl, iteNo (by decide) ?_⟩; refine ⟨_, rfl, rfl, _, rfl, iteNo (by decide) ?_⟩; refine ⟨_, rfl, rfl, _, rfl, iteNo (by decide) ?_⟩; refine ⟨_, rfl, rfl, _, rfl, iteNo (by decide) ?_⟩; refine ⟨_, rfl, rfl, _, rfl, iteYes rfl ?_⟩; exact fin rfl (by decide)
  | 9, _ => refine ⟨_, rfl, rfl, _, rfl, iteNo (by decide) ?_⟩; refine ⟨_, rfl, rfl, _, rfl, iteNo (by decide) ?_⟩; refine ⟨_, rfl, rfl, _, rfl, iteNo (by decide) ?_⟩; refine ⟨_, rfl, rfl, _, rfl, iteNo (by decide) ?_⟩; refine ⟨_, rfl, rfl, _, rfl, iteNo (by decide) ?_⟩; refine ⟨_, rfl, rfl, _, rfl, iteNo (by decide) ?_⟩; refine ⟨_, rfl, rfl, _, rfl, iteNo (by decide) ?_⟩; refine ⟨_, rfl, rfl, _, rfl, iteNo (by decide) ?_⟩; refine ⟨_, rfl, rfl, _, rfl, iteNo (by decide) ?_⟩; refine ⟨_, rfl, rfl, _, rfl, iteYes rfl ?_⟩; exact fin rfl (by decide)
  | 10, _ => refine ⟨_, rfl, rfl, _, rfl, iteNo (by decide) ?_⟩; refine ⟨_, rfl, rfl, _, rfl, iteNo (by decide) ?_⟩; refine ⟨_, rfl, rfl, _, rfl, iteNo (by decide) ?_⟩; refine ⟨_, rfl, rfl, _, rfl, iteNo (by decide) ?_⟩; refine ⟨_, rfl, rfl, _, rfl, iteNo (by decide) ?_⟩; refine ⟨_, rfl, rfl, _, rfl, iteNo (by decide) ?_⟩; refine ⟨_, rfl, rfl, _, rfl, iteNo (by decide) ?_⟩; refine ⟨_, rfl, rfl, _, rfl, iteNo (by decide) ?_⟩; refine ⟨_, rfl, rfl, _, rfl, iteNo (by decide) ?_⟩; refine ⟨_, rfl, rfl, _, rfl, iteNo (by decide) ?_⟩; refine ⟨_, rfl, rfl, _, rfl, iteNo (by decide) ?_⟩; exact fun a z => q10 rfl a z
  | 11, _ => refine ⟨_, rfl, rfl, _, rfl, iteNo (by decide) ?_⟩; refine ⟨_, rfl, rfl, _, rfl, iteNo (by decide) ?_⟩; refine ⟨_, rfl, rfl, _, rfl, iteNo (by decide) ?_⟩; refine ⟨_, rfl, rfl, _, rfl, iteNo (by decide) ?_⟩; refine ⟨_, rfl, rfl, _, rfl, iteNo (by decide) ?_⟩; refine ⟨_, rfl, rfl, _, rfl, iteNo (by decide) ?_⟩; refine ⟨_, rfl, rfl, _, rfl, iteNo (by decide) ?_⟩; refine ⟨_, rfl, rfl, _, rfl, iteNo (by decide) ?_⟩; refine ⟨_, rfl, rfl, _, rfl, iteNo (by decide) ?_⟩; refine ⟨_, rfl, rfl, _, rfl, iteNo (by decide) ?_⟩; refine ⟨_, rfl, rfl, _, rfl, iteYes rfl ?_⟩; exact fin rfl (by decide)
  | n + 12, h => omega
end
end L2.K0


namespace L2.K0
open PySem L2 L2.Bv Bov
theorem scK : FnScope ["e", "found", "at", "is_one"] ["e"] (defScope sKinds) := ⟨rfl, rfl, rfl, by decide +kernel, rfl, by decide +kernel, by decide +kernel⟩
theorem scKe : FnScope ["number", "e"] ["number", "e"] (defScope sKept) := ⟨rfl, rfl, rfl, by decide +kernel, rfl, by decide +kernel, by decide +kernel⟩
theorem scC : FnScope ["number"] ["number"] (defScope sCaught) := ⟨rfl, rfl, rfl, by decide +kernel, rfl, by decide +kernel, by decide +kernel⟩
theorem ExAt.same {H H' : Hp} {a C : Addr} {d : Option Addr} (s : Same H H') (e : ExAt H a C d) : ExAt H' a C d := ⟨s _ _ e.1, fun dx z => (e.2 dx z).imp fun fs h => s _ _ h⟩
theorem sameNew {H : Hp} {p : Addr} (o : HO) (h : H p = none) : Same H (upd H p o) := fun b u q => by
  rw [upd_ne (ne_of_none q h)]
  exact q
def spKinds (C : Nat → Addr) : Sp := fun vs H Q _ => ∃ (a : Addr) (n : Nat) (d : Option Addr), vs = [.ref a] ∧ n < 12 ∧ ExAt H a (C n) d ∧ ∀ (p : Addr) (H' : Hp), Same H H' → H p = none → H' p = some (.lst [.int n]) → Q (.ref p) H'
section
variable {P : Program} {w : World} {K : PySem.W.Frag} {mg : Str → Option Value} {base : Heap} {C : Nat → Addr} {pa : Addr}
theorem ok_kinds {f : Addr} {fd : FuncData} (F : Fun K "_law_kinds" "_law_kinds" sKinds f fd) (T : Tab P w K mg base C pa) (mis : mg "isinstance" = none) (men : mg "enumerate" = none) : FnOk P w K mg base CX0 1 f fd ["e"] (spKinds C) := by
  refine F.ok scK (fun vs H Q E h => ?_) (fun cdv A outer s H vs Q E hr h => ?_)
  · obtain ⟨a, n, d, rfl, _⟩ := h
    rfl
  obtain ⟨a, n, d, rfl, hn, ea, q⟩ := h
  refine ⟨_, pss_cons (ps_set (i := 1) scK.nd rfl (Or.inl rfl) (pe_lst
        (pa_cons (pe_callB (callIsEx T.hn T.ht) (by rfl) mis (by decide +kernel) (pa_cons (pv 0) (pa_cons (pe_glob rfl T.m0.gC (v := .ref (C 0)) rfl) pa_nil)))
        (pa_cons (pe_callB (callIsEx T.hn T.ht) (by rfl) mis (by decide +kernel) (pa_cons (pv 0) (pa_cons (pe_glob rfl T.m1.gC (v := .ref (C 1)) rfl) pa_nil)))
        (pa_cons (pe_callB (callIsEx T.hn T.ht) (by rfl) mis (by decide +kernel) (pa_cons (pv 0) (pa_cons (pe_glob rfl T.m2.gC (v := .ref (C 2)) rfl) pa_nil)))
        (pa_cons (pe_callB (callIsEx T.hn T.ht) (by rfl) mis (by decide +kernel) (pa_cons (pv 0) (pa_cons (pe_glob rfl T.m3.gC (v := .ref (C 3)) rfl) pa_nil))) pa_nil))))))
    (pss_cons (ps_set (i := 1) scK.nd rfl (Or.inl rfl) (pe_op op_cat (pv 1) (pe_lst
        (pa_cons (pe_callB (callIsEx T.hn T.ht) (by rfl) mis (by decide +kernel) (pa_cons (pv 0) (pa_cons (pe_glob rfl T.m4.gC (v := .ref (C 4)) rfl) pa_nil)))
        (pa_cons (pe_callB (callIsEx T.hn T.ht) (by rfl) mis (by decide +kernel) (pa_cons (pv 0) (pa_cons (pe_glob rfl T.m5.gC (v := .ref (C 5)) rfl) pa_nil)))
        (pa_cons (pe_callB (callIsEx T.hn T.ht) (by rfl) mis (by decide +kernel) (pa_cons (pv 0) (pa_cons (pe_glob rfl T.m6.gC (v := .ref (C 6)) rfl) pa_nil)))
        (pa_cons (pe_callB (callIsEx T.hn T.ht) (by rfl) mis (by decide +kernel) (pa_cons (pv 0) (pa_cons (pe_glob rfl T.m7.gC (v := .ref (C 7)) rfl) pa_nil))) pa_nil)))))))
    (pss_cons (ps_set (i := 1) scK.nd rfl (Or.inl rfl) (pe_op op_cat (pv 1) (pe_lst
        (pa_cons (pe_callB (callIsEx T.hn T.ht) (by rfl) mis (by decide +kernel) (pa_cons (pv 0) (pa_cons (pe_glob rfl T.m8.gC (v := .ref (C 8)) rfl) pa_nil)))
        (pa_cons (pe_callB (callIsEx T.hn T.ht) (by rfl) mis (by decide +kernel) (pa_cons (pv 0) (pa_cons (pe_glob rfl T.m9.gC (v := .ref (C 9)) rfl) pa_nil)))
        (pa_cons (pe_callB (callIsEx T.hn T.ht) (by rfl) mis (by decide +kernel) (pa_cons (pv 0) (pa_cons (pe_glob rfl T.g10 (v := .ref (C 10)) rfl) pa_nil)))
        (pa_cons (pe_callB (callIsEx T.hn T.ht) (by rfl) mis (by decide +kernel) (pa_cons (pv 0) (pa_cons (pe_glob rfl T.m11.gC (v := .ref (C 11)) rfl) pa_nil))) pa_nil)))))))
    (pss_one (ps_ret (pe_lc (own := [("at", 2), ("is_one", 3)]) (g := gTup K 2 (gCons (gName 2) (gCons (gName 3) gNil))) (tt := tB (tVar 3)) (te := tVar 2) rfl scK.nd (pi_enum (by rfl) men (pa_cons (pv 1) pa_nil))
        (blkOk_by (N := ["e", "found", "at", "is_one"]) (sc := defScope sKinds) (by decide +kernel))
        (fun _ _ _ _ _ => pg_tup rfl (pgs_cons (pg_name (i := 2) scK.nd rfl (Or.inl rfl)) (pgs_cons (pg_name (i := 3) scK.nd rfl (Or.inl rfl)) pgs_nil))) (fun _ _ _ _ _ => pts_one (pt_val (pv 3))) (fun _ _ _ _ _ => pv 2)))))), ?_⟩
  refine ⟨_, rfl, a, C n, _, d, _, _, _, rfl, T.ec hn, ea, .own _, T.kOwn hn (m := 0) (by decide), _, rfl, a, C n, _, d, _, _, _, rfl, T.ec hn, ea, .own _, T.kOwn hn (m := 1) (by decide),
    _, rfl, a, C n, _, d, _, _, _, rfl, T.ec hn, ea, .own _, T.kOwn hn (m := 2) (by decide), _, rfl, a, C n, _, d, _, _, _, rfl, T.ec hn, ea, .own _, T.kOwn hn (m := 3) (by decide), (by show 4 ≤ sizeLine; decide), fun l1 h1 => ?_⟩
  have s1 : Same H (upd H l1 _) := sameNew (.lst [.bl (decide (n = 0)), .bl (decide (n = 1)), .bl (decide (n = 2)), .bl (decide (n = 3))]) h1
  have e1 := ExAt.same s1 ea
  refine ⟨_, rfl, _, rfl, a, C n, _, d, _, _, _, rfl, T.ec hn, e1, .own _, T.kOwn hn (m := 4) (by decide), _, rfl, a, C n, _, d, _, _, _, rfl, T.ec hn, e1, .own _, T.kOwn hn (m := 5) (by decide),
    _, rfl, a, C n, _, d, _, _, _, rfl, T.ec hn, e1, .own _, T.kOwn hn (m := 6) (by decide), _, rfl, a, C n, _, d, _, _, _, rfl, T.ec hn, e1, .own _, T.kOwn hn (m := 7) (by decide), (by show 4 ≤ sizeLine; decide), fun l2 h2 => ?_⟩
  have s2 := s1.trans (sameNew (.lst [.bl (decide (n = 4)), .bl (decide (n = 5)), .bl (decide (n = 6)), .bl (decide (n = 7))]) h2)
  refine ⟨l1, l2, _, _, rfl, rfl, (by rw [upd_ne (ne_of_none upd_same h2)]; exact upd_same), upd_same, (by show 8 ≤ sizeLine; decide), fun l3 h3 => ?_⟩
  have s3 := s2.trans (sameNew (.lst ([.bl (decide (n = 0)), .bl (decide (n = 1)), .bl (decide (n = 2)), .bl (decide (n = 3))] ++ [.bl (decide (n = 4)), .bl (decide (n = 5)), .bl (decide (n = 6)), .bl (decide (n = 7))])) h3)
  have e3 := ExAt.same s3 ea
  refine ⟨_, rfl, _, rfl, a, C n, _, d, _, _, _, rfl, T.ec hn, e3, .own _, T.kOwn hn (m := 8) (by decide), _, rfl, a, C n, _, d, _, _, _, rfl, T.ec hn, e3, .own _, T.kOwn hn (m := 9) (by decide),
    _, rfl, a, C n, _, d, _, _, _, rfl, T.ec hn, e3, .own _, T.kOwn hn (m := 10) (by decide), _, rfl, a, C n, _, d, _, _, _, rfl, T.ec hn, e3, .own _, T.kOwn hn (m := 11) (by decide), (by show 4 ≤ sizeLine; decide), fun l4 h4 => ?_⟩
  have s4 := s3.trans (sameNew (.lst [.bl (decide (n = 8)), .bl (decide (n = 9)), .bl (decide (n = 10)), .bl (decide (n = 11))]) h4)
  refine ⟨l3, l4, _, _, rfl, rfl, (by rw [upd_ne (ne_of_none upd_same h4)]; exact upd_same), upd_same, (by show 12 ≤ sizeLine; decide), fun l5 h5 => ?_⟩
  let xs : List V := (List.range 12).map fun m => V.bl (decide (n = m))
  have s5 := s4.trans (sameNew (.lst xs) h5)
  refine ⟨_, rfl, l5, xs, rfl, SqL.of upd_same, fun D hD => ?_⟩
  have hD0 : H D = none := s5.free hD
  have n5 : l5 ≠ D := ne_of_none upd_same hD
  refine lc_it (walk_enum (K := K) (a := l5) (xs := xs)) (fun i H' => Same H H' ∧ H' l5 = some (.lst xs) ∧ H' D = some (.lst (if n < i then [.int n] else []))) ?_ (fun i H' _ z => SqL.of z.2.1) ?_ ?_
  · refine ⟨s5.trans (sameNew (.lst []) hD), ?_, ?_⟩
    · rw [upd_ne n5]
      exact upd_same
    · rw [upd_same, if_neg (Nat.not_lt_zero n)]
  · rintro i x H1 H2 hi ⟨t1, t2, t3⟩ ⟨Tp, u, v, rfl, hT, rfl, eu, ev⟩
    have i12 : i < 12 := hi
    obtain rfl : u = .int (i : Nat) := (Option.some.inj eu).symm
    obtain rfl : v = .bl (decide (n = i)) := by
      have z : xs[i]? = some (.bl (decide (n = i))) := by
        show ((List.range 12).map fun m => V.bl (decide (n = m)))[i]? = _
        rw [List.getElem?_map, List.getElem?_range i12]
        rfl
      have ev' : xs[i]? = some v := ev
      rw [z] at ev'
      exact (Option.some.inj ev').symm
    have nT : D ≠ Tp := ne_of_none t3 hT
    have n5T : l5 ≠ Tp := ne_of_none t2 hT
    refine ⟨Tp, _, rfl, SqT.of upd_same, rfl, _, _, rfl, _, _, rfl, rfl, rfl, _, rfl, _, rfl, ?_⟩
    have g3 : upd H1 Tp (.tup [.int (i : Nat), .bl (decide (n = i))]) D = some (.lst (if n < i then [.int n] else [])) := by
      rw [upd_ne nT]
      exact t3
    have t4 := t1.trans (sameNew (.tup [.int (i : Nat), .bl (decide (n = i))]) hT)
    refine ite2 (fun c => ?_) (fun c => ?_)
    · have e : n = i := of_decide_eq_true c
      subst e
      rw [if_neg (Nat.lt_irrefl n)] at g3
      refine ⟨_, rfl, [], g3, (by show 0 < sizeLine; decide), fun b o z => ?_, ?_, ?_⟩
      · rw [upd_ne (ne_of_none z hD0)]
        exact t4 b o z
      · rw [upd_ne n5, upd_ne n5T]
        exact t2
      · rw [upd_same, if_pos (Nat.lt_succ_self n)]
        rfl
    · have e : n ≠ i := of_decide_eq_false (Bool.eq_false_iff.mpr c)
      refine ⟨t4, ?_, ?_⟩
      · rw [upd_ne n5T]
        exact t2
      · rw [g3]
        by_cases z : n < i
        · rw [if_pos z, if_pos (by omega)]
        · rw [if_neg z, if_neg (by omega)]
  · rintro H1 ⟨t1, t2, t3⟩
    have l12 : xs.length = 12 := rfl
    rw [l12, if_pos hn] at t3
    exact q D H1 t1 hD0 t3
end
end L2.K0


namespace L2.K0
open PySem L2 L2.Bv Bov
def spKept (C : Nat → Addr) : Sp := fun vs H Q _ => ∃ (n : Nat) (a : Addr), vs = [.int n, .ref a] ∧ n < 12 ∧
  ((n ≠ 10 ∧ ∃ (d : Addr) (v : V), H a = some (exo a (C n) (some d)) ∧ H d = some (exd d [(fld n, v)]) ∧ ∀ p, H p = none → Q (.ref p) (upd H p (.lst [v]))) ∨ (n = 10 ∧ ∀ p, H p = none → Q (.ref p) (upd H p (.lst []))))
theorem look1 (f : Str) (v : V) : List.lookup f [(f, v)] = some v := by simp [List.lookup]
section
variable {P : Program} {w : World} {K : PySem.W.Frag} {mg : Str → Option Value} {base : Heap} {C : Nat → Addr} {pa : Addr}
theorem ok_kept {f : Addr} {fd : FuncData} (F : Fun K "_law_kept" "_law_kept" sKept f fd) (T : Tab P w K mg base C pa) : FnOk P w K mg base CX0 1 f fd ["number", "e"] (spKept C) := by
  refine F.ok scKe (fun vs H Q E h => ?_) (fun cdv A outer s H vs Q E hr h => ?_)
  · obtain ⟨n, a, rfl, _⟩ := h
    rfl
  obtain ⟨n, a, rfl, hn, q⟩ := h
  refine ⟨_, pss_cons (ps_if (PW.pt (pw_or (pt_cmpR op_lt (pv 0) pe_int (nomark _)) (pw_or1 (pt_cmpR op_eq (pv 0) pe_int (nomark _))))) (pss_one (ps_ret (pe_lst (pa_cons (peFld (f := "at") (pv 1)) pa_nil)))) pss_nil)
    (pss_cons (ps_if (pt_cmpR op_lt (pv 0) pe_int (nomark _)) (pss_one (ps_ret (pe_lst (pa_cons (peFld (f := "word") (pv 1)) pa_nil)))) pss_nil)
    (pss_one (ps_ret (pe_ifExp (pt_cmpR op_eq (pv 0) pe_int (nomark _)) (pe_lst (pa_cons (peFld (f := "name") (pv 1)) pa_nil)) (pe_lst pa_nil))))), ?_⟩
  have one : 1 ≤ sizeLine := by decide
  have read : n ≠ 10 → ∃ (d : Addr) (v : V), H a = some (exo a (C n) (some d)) ∧ H d = some (exd d [(fld n, v)]) ∧ ∀ p, H p = none → Q (.ref p) (upd H p (.lst [v])) := fun h => by
    rcases q with ⟨_, z⟩ | ⟨z, _⟩
    · exact z
    · exact absurd z h
  have eqn : ∀ m : Nat, (decide ((V.int (n : Int)) = V.int (m : Int)) = true) ↔ n = m := fun m => by
    rw [decide_eq_true_iff]
    constructor
    · intro z
      injection z with z
      omega
    · intro z
      rw [z]
  refine ⟨_, rfl, _, _, rfl, rfl, _, rfl, ?_⟩
  refine ite2 (fun c => ?_) (fun c => ?_)
  · have c7 : n < 7 := by
      have z : ((n : Nat) : Int) < 7 := of_decide_eq_true c
      omega
    obtain ⟨d, v, h1, h2, h3⟩ := read (by omega)
    have ef : fld n = "at" := by
      unfold fld
      rw [if_neg (by omega), if_neg (by omega)]
    rw [ef] at h2
    have no := T.no hn (by omega)
    rw [ef] at no
    refine iteT ⟨_, rfl, a, C n, d, _, _, v, rfl, T.ec hn, no, h1, h2, look1 _ _, one, fun p hp => h3 p hp⟩
  · have c7 : ¬ n < 7 := fun z => by
      have y : ¬ ((n : Nat) : Int) < 7 := of_decide_eq_false (Bool.eq_false_iff.mpr c)
      omega
    refine ⟨_, rfl, rfl, _, rfl, ?_⟩
    by_cases e11 : n = 11
    · refine iteYes (a := V.int n) (b := V.int 11) (by rw [e11]; rfl) ?_
      obtain ⟨d, v, h1, h2, h3⟩ := read (by omega)
      have ef : fld n = "at" := by
        unfold fld
        rw [if_neg (by omega), if_neg (by omega)]
      rw [ef] at h2
      have no := T.no hn (by omega)
      rw [ef] at no
      exact ⟨_, rfl, a, C n, d, _, _, v, rfl, T.ec hn, no, h1, h2, look1 _ _, one, fun p hp => h3 p hp⟩
    · refine iteNo (a := V.int n) (b := V.int 11) (fun z => e11 ((eqn 11).mp (decide_eq_true z))) ?_
      refine ⟨_, rfl, _, _, rfl, rfl, _, rfl, ?_⟩
      refine ite2 (fun c => ?_) (fun c => ?_)
      · have c9 : n < 9 := by
          have z : ((n : Nat) : Int) < 9 := of_decide_eq_true c
          omega
        obtain ⟨d, v, h1, h2, h3⟩ := read (by omega)
        have ef : fld n = "word" := by
          unfold fld
          rw [if_neg (by omega), if_pos (by omega)]
        rw [ef] at h2
        have no := T.no hn (by omega)
        rw [ef] at no
        exact ⟨_, rfl, a, C n, d, _, _, v, rfl, T.ec hn, no, h1, h2, look1 _ _, one, fun p hp => h3 p hp⟩
      · have c9 : ¬ n < 9 := fun z => by
          have y : ¬ ((n : Nat) : Int) < 9 := of_decide_eq_false (Bool.eq_false_iff.mpr c)
          omega
        refine ⟨_, rfl, rfl, _, rfl, ?_⟩
        by_cases e9 : n = 9
        · refine iteYes (a := V.int n) (b := V.int 9) (by rw [e9]; rfl) ?_
          obtain ⟨d, v, h1, h2, h3⟩ := read (by omega)
          have ef : fld n = "name" := by
            unfold fld
            rw [if_pos e9]
          rw [ef] at h2
          have no := T.no hn (by omega)
          rw [ef] at no
          exact ⟨_, rfl, a, C n, d, _, _, v, rfl, T.ec hn, no, h1, h2, look1 _ _, one, fun p hp => h3 p hp⟩
        · refine iteNo (a := V.int n) (b := V.int 9) (fun z => e9 ((eqn 9).mp (decide_eq_true z))) ?_
          rcases q with ⟨z, _⟩ | ⟨_, z⟩
          · omega
          · exact ⟨by show 0 ≤ sizeLine; decide, fun p hp => z p hp⟩
/-- raise C(e) -/
def tRs (K : PySem.W.Frag) (H0 : Hp) (te : TE) (W : WX) : TS := fun _ σ H => te σ H fun x H1 => ∃ (a C : Addr) (bm : List Value) (d : Option Addr), x = .ref a ∧ EC K C bm ∧ H1 a = some (exo a C d) ∧ H0 a = none ∧ W (.ref C) d σ (delH H1 a)
theorem psRs {X : Cx} {e : Expr} {te : TE} {W : WX} {pos : Pos} (hc : X.calm = true) (tk : Takes X W) (hx : X.ex = []) (he : PE X e te) : PS X (.Raise (some e) none pos) (tRs X.K X.H_0 te W) := ps_raise hc tk (pmkEx hx he)
abbrev tIs (k : Int) : TT := tTest (tOp rEq (tVar 0) (tC (.int k)))
abbrev tE1 (C : Nat → Addr) (n : Nat) (f : Str) : TE := tEx (C n) f (tC (.int 1))
def tb_caught (K : PySem.W.Frag) (H0 : Hp) (C : Nat → Addr) (W : WX) : TS :=
  tSeq (tIfS (tIs 0) (tRs K H0 (tE1 C 0 "at") W) tNext) (tSeq (tIfS (tIs 1) (tRs K H0 (tE1 C 1 "at") W) tNext) (tSeq (tIfS (tIs 2) (tRs K H0 (tE1 C 2 "at") W) tNext)
  (tSeq (tIfS (tIs 3) (tRs K H0 (tE1 C 3 "at") W) tNext) (tSeq (tIfS (tIs 4) (tRs K H0 (tE1 C 4 "at") W) tNext) (tSeq (tIfS (tIs 5) (tRs K H0 (tE1 C 5 "at") W) tNext)
  (tSeq (tIfS (tIs 6) (tRs K H0 (tE1 C 6 "at") W) tNext) (tSeq (tIfS (tIs 7) (tRs K H0 (tE1 C 7 "word") W) tNext) (tSeq (tIfS (tIs 8) (tRs K H0 (tE1 C 8 "word") W) tNext)
  (tSeq (tIfS (tIs 9) (tRs K H0 (tE1 C 9 "name") W) tNext) (tSeq (tIfS (tIs 11) (tRs K H0 (tE1 C 11 "at") W) tNext) (tRs K H0 (fun _ H Q => ∀ a, H a = none → Q (.ref a) (upd H a (exo a (C 10) none))) W)))))))))))
def spCaught : Sp := fun vs H Q _ => ∃ n : Nat, vs = [.int n] ∧ n < 12 ∧ ∀ H', Same H H' → Q (.str (if n = 9 then "key" else "pact")) H'
theorem exmRef {cls : Value} {D : Addr} {bm : List Value} {b : Bool} (T : EC K D bm) (s : PySem.W.subIn K cls (.ref D) = some b) : PySem.W.exmOne K cls (.ref D) = some b :=
  PySem.W.exm_ref T.exC T.hdC T.tyC s
theorem ok_caught {f : Addr} {fd : FuncData} (F : Fun K "_law_caught" "_law_caught" sCaught f fd) (T : Tab P w K mg base C pa) (mk : mg "KeyError" = none) : FnOk P w K mg base CX0 3 f fd ["number"] spCaught := by
  refine F.ok scC (fun vs H Q E h => ?_) (fun cdv A outer s H vs Q E hr h => ?_)
  · obtain ⟨n, rfl, _⟩ := h
    rfl
  obtain ⟨n, rfl, hn, q⟩ := h
  refine ⟨_, pss_one (ps_try_many (tb := tb_caught K H C) (l := [(.ref pa, fun _ _ _ => tRet (tC (.str "pact"))), (.type "KeyError", fun _ _ _ => tRet (tC (.str "key")))]) rfl rfl takes0 (fun W pn xe tk _ =>
      pss_cons (ps_if (pt_cmpR op_eq (pv 0) pe_int (nomark _)) (pss_one (psRs rfl tk rfl (peEx T.m0 hr pe_int))) pss_nil)
      (pss_cons (ps_if (pt_cmpR op_eq (pv 0) pe_int (nomark _)) (pss_one (psRs rfl tk rfl (peEx T.m1 hr pe_int))) pss_nil)
      (pss_cons (ps_if (pt_cmpR op_eq (pv 0) pe_int (nomark _)) (pss_one (psRs rfl tk rfl (peEx T.m2 hr pe_int))) pss_nil)
      (pss_cons (ps_if (pt_cmpR op_eq (pv 0) pe_int (nomark _)) (pss_one (psRs rfl tk rfl (peEx T.m3 hr pe_int))) pss_nil)
      (pss_cons (ps_if (pt_cmpR op_eq (pv 0) pe_int (nomark _)) (pss_one (psRs rfl tk rfl (peEx T.m4 hr pe_int))) pss_nil)
      (pss_cons (ps_if (pt_cmpR op_eq (pv 0) pe_int (nomark _)) (pss_one (psRs rfl tk rfl (peEx T.m5 hr pe_int))) pss_nil)
      (pss_cons (ps_if (pt_cmpR op_eq (pv 0) pe_int (nomark _)) (pss_one (psRs rfl tk rfl (peEx T.m6 hr pe_int))) pss_nil)
      (pss_cons (ps_if (pt_cmpR op_eq (pv 0) pe_int (nomark _)) (pss_one (psRs rfl tk rfl (peEx T.m7 hr pe_int))) pss_nil)
      (pss_cons (ps_if (pt_cmpR op_eq (pv 0) pe_int (nomark _)) (pss_one (psRs rfl tk rfl (peEx T.m8 hr pe_int))) pss_nil)
      (pss_cons (ps_if (pt_cmpR op_eq (pv 0) pe_int (nomark _)) (pss_one (psRs rfl tk rfl (peEx T.m9 hr pe_int))) pss_nil)
      (pss_cons (ps_if (pt_cmpR op_eq (pv 0) pe_int (nomark _)) (pss_one (psRs rfl tk rfl (peEx T.m11 hr pe_int))) pss_nil)
      (pss_one (psRs rfl tk rfl (peEx0 PySem.F.excBase_Exception T.x10 T.g10 T.c10.kC))))))))))))))
    (HdsOk.cons ⟨rfl, by decide, Or.inl T.gp⟩ (fun _ _ _ _ _ _ _ => pss_one (ps_ret pe_str)) (HdsOk.cons ⟨rfl, by decide, Or.inr ⟨mk, by decide +kernel, by decide⟩⟩ (fun _ _ _ _ _ _ _ => pss_one (ps_ret pe_str)) HdsOk.nil))), ?_⟩
  have hold : ∀ (d : Option Addr) (D : Ends) (σ : St) (H1 : Hp), D.rt = Q → Same H H1 → wMany K (fun _ _ _ _ => False) D [(.ref pa, fun _ _ _ => tRet (tC (.str "pact"))), (.type "KeyError", fun _ _ _ => tRet (tC (.str "key")))] (.ref (C n)) d σ H1 := by
    rintro d D σ H1 rfl sm
    have sb : PySem.W.subIn K (.ref (C n)) (.ref pa) = some (decide (n ≠ 9)) := by
      have z := T.kPact hn
      unfold PySem.W.kitOne at z
      rw [refNe (T.offP n hn), if_neg Bool.false_ne_true] at z
      have z' : (if ((PySem.W.clsIn K pa).isSome && PySem.W.typeIn K (.ref pa) == some (.type "type")) = true then PySem.W.subIn K (.ref (C n)) (.ref pa) else none) = some (decide (n ≠ 9)) := z
      have c1 := T.cp.clC
      unfold PySem.W.isClsIn at c1
      rw [c1, T.cp.tyC, if_pos (by decide +kernel)] at z'
      exact z'
    refine ⟨_, exmRef T.cp sb, fun c a _ => ?_, fun c => ⟨true, ?_, fun _ a _ => ?_, fun z => nomatch z⟩⟩
    · have e : n ≠ 9 := of_decide_eq_true c
      have z := q H1 sm
      rw [if_neg e] at z
      exact z
    · have e : n = 9 := by
        have y : ¬ n ≠ 9 := of_decide_eq_false c
        omega
      have z := T.kKey hn
      rw [decide_eq_true e] at z
      unfold PySem.W.kitOne at z
      have ne : (Value.ref (C n) == Value.type "KeyError") = false := rfl
      rw [ne, if_neg Bool.false_ne_true] at z
      unfold PySem.W.exmOne
      have b0 : (PySem.W.subIn K (.type "KeyError") (.type "BaseException") == some true) = true := by
        have y : PySem.W.subIn ([] : PySem.W.Frag) (.type "KeyError") (.type "BaseException") = some true := by decide +kernel
        have y2 : PySem.W.subIn K (.type "KeyError") (.type "BaseException") = PySem.W.subIn ([] : PySem.W.Frag) (.type "KeyError") (.type "BaseException") := rfl
        rw [y2, y]
        rfl
      rw [if_pos b0]
      exact z
    · have e : n = 9 := by
        have y : ¬ n ≠ 9 := of_decide_eq_false c
        omega
      have z := q H1 sm
      rw [if_pos e] at z
      exact z
  have sm1 : ∀ (a d : Addr) (o1 o2 : HO), H a = none → H d = none → Same H (delH (upd (upd H d o1) a o2) a) := fun a d o1 o2 z1 z2 b o e => by
    rw [delH_ne (ne_of_none e z1), upd_ne (ne_of_none e z1), upd_ne (ne_of_none e z2)]
    exact e
  have sm0 : ∀ (a : Addr) (o2 : HO), H a = none → Same H (delH (upd H a o2) a) := fun a o2 z1 b o e => by
    rw [delH_ne (ne_of_none e z1), upd_ne (ne_of_none e z1)]
    exact e
  match n, hn with
  | 0, hn => refine ⟨_, rfl, rfl, _, rfl, iteYes rfl ?_⟩; exact fun a d z1 z2 z3 => ⟨a, C 0, _, some d, rfl, T.ec hn, upd_same, z1, hold _ _ _ _ rfl (sm1 a d _ _ z1 z2)⟩
  | 1, hn => refine ⟨_, rfl, rfl, _, rfl, iteNo (by decide) ?_⟩; refine ⟨_, rfl, rfl, _, rfl, iteYes rfl ?_⟩; exact fun a d z1 z2 z3 => ⟨a, C 1, _, some d, rfl, T.ec hn, upd_same, z1, hold _ _ _ _ rfl (sm1 a d _ _ z1 z2)⟩
  | 2, hn => refine ⟨_, rfl, rfl, _, rfl, iteNo (by decide) ?_⟩; refine ⟨_, rfl, rfl, _, rfl, iteNo (by decide) ?_⟩; refine ⟨_, rfl, rfl, _, rfl, iteYes rfl ?_⟩; exact fun a d z1 z2 z3 => ⟨a, C 2, _, some d, rfl, T.ec hn, upd_same, z1, hold _ _ _ _ rfl (sm1 a d _ _ z1 z2)⟩
  | 3, hn => refine ⟨_, rfl, rfl, _, rfl, iteNo (by decide) ?_⟩; refine ⟨_, rfl, rfl, _, rfl, iteNo (by decide) ?_⟩; refine ⟨_, rfl, rfl, _, rfl, iteNo (by decide) ?_⟩; refine ⟨_, rfl, rfl, _, rfl, iteYes rfl ?_⟩; exact fun a d z1 z2 z3 => ⟨a, C 3, _, some d, rfl, T.ec hn, upd_same, z1, hold _ _ _ _ rfl (sm1 a d _ _ z1 z2)⟩
  | 4, hn => refine ⟨_, rfl, rfl, _, rfl, iteNo (by decide) ?_⟩; refine ⟨_, rfl, rfl, _, rfl, iteNo (by decide) ?_⟩; refine ⟨_, rfl, rfl, _, rfl, iteNo (by decide) ?_⟩; refine ⟨_, rfl, rfl, _, rfl, iteNo (by decide) ?_⟩; refine ⟨_, rfl, rfl, _, rfl, iteYes rfl ?_⟩; exact fun a d z1 z2 z3 => ⟨a, C 4, _, some d, rfl, T.ec hn, upd_same, z1, hold _ _ _ _ rfl (sm1 a d _ _ z1 z2)⟩
  | 5, hn => refine ⟨_, rfl, rfl, _, rfl, iteNo (by decide) ?_⟩; refine ⟨_, rfl, rfl, _, rfl, iteNo (by decide) ?_⟩; refine ⟨_, rfl, rfl, _, rfl, iteNo (by decide) ?_⟩; refine ⟨_, rfl, rfl, _, rfl, iteNo (by decide) ?_⟩; refine ⟨_, rfl, rfl, _, rfl, iteNo (by decide) ?_⟩; refine ⟨_, rfl, rfl, _, rfl, iteYes rfl ?_⟩; exact fun a d z1 z2 z3 => ⟨a, C 5, _, some d, rfl, T.ec hn, upd_same, z1, hold _ _ _ _ rfl (sm1 a d _ _ z1 z2)⟩
  | 6, hn => refine ⟨_, rfl, rfl, _, rfl, iteNo (by decide) ?_⟩; refine ⟨_, rfl, rfl, _, rfl, iteNo (by decide) ?_⟩; refine ⟨_, rfl, rfl, _, rfl, iteNo (by decide) ?_⟩; refine ⟨_, rfl, rfl, _, rfl, iteNo (by decide) ?_⟩; refine ⟨_, rfl, rfl, _, rfl, iteNo (by decide) ?_⟩; refine ⟨_, rfl, rfl, _, rfl, iteNo (by decide) ?_⟩; refine ⟨_, rfl, rfl, _, rfl, iteYes rfl ?_⟩; exact fun a d z1 z2 z3 => ⟨a, C 6, _, some d, rfl, T.ec hn, upd_same, z1, hold _ _ _ _ rfl (sm1 a d _ _ z1 z2)⟩
  | 7, hn => refine ⟨_, rfl, rfl, _, rfl, iteNo (by decide) ?_⟩; refine ⟨_, rfl, rfl, _, rfl, iteNo (by decide) ?_⟩; refine ⟨_, rfl, rfl, _, rfl, iteNo (by decide) ?_⟩; refine ⟨_, rfl, rfl, _, rfl, iteNo (by decide) ?_⟩; refine ⟨_, rfl, rfl, _, rfl, iteNo (by decide) ?_⟩; refine ⟨_, rfl, rfl, _, rfl, iteNo (by decide) ?_⟩; refine ⟨_, rfl, rfl, _, rfl, iteNo (by decide) ?_⟩; refine ⟨_, rfl, rfl, _, rfl, iteYes rfl ?_⟩; exact fun a d z1 z2 z3 => ⟨a, C 7, _, some d, rfl, T.ec hn, upd_same, z1, hold _ _ _ _ rfl (sm1 a d _ _ z1 z2)⟩
  | 8, hn => refine ⟨_, rfl, rfl, _, rfl, iteNo (by decide) ?_⟩; refine ⟨_, rfl, rfl, _, rfl, iteNo (by decide) ?_⟩; refine ⟨_, rfl, rfl, _, rfl, iteNo (by decide) ?_⟩; refine ⟨_, rfl, rfl, _, rfl, iteNo (by decide) ?_⟩; refine ⟨_, rfl, rfl, _, rfl, iteNo (by decide) ?_⟩; refine ⟨_, rfl, rfl, _, rfl, iteNo (by decide) ?_⟩; refine ⟨_, rfl, rfl, _, rfl, iteNo (by decide) ?_⟩; refine ⟨_, rfl, rfl, _, rfl, iteNo (by decide) ?_⟩; refine ⟨_, rfl, rfl, _, rfl, iteYes rfl ?_⟩; exact fun a d z1 z2 z3 => ⟨a, C 8, _, some d, rfl, T.ec hn, upd_same, z1, hold _ _ _ _ rfl (sm1 a d _ _ z1 z2)⟩
  | 9, hn => refine ⟨_, rfl, rfl, _, rfl, iteNo (by decide) ?_⟩; refine ⟨_, rfl, rfl, _, rfl, iteNo (by decide) ?_⟩; refine ⟨_, rfl, rfl, _, rfl, iteNo (by decide) ?_⟩; refine ⟨_, rfl, rfl, _, rfl, iteNo (by decide) ?_⟩; refine ⟨_, rfl, rfl, _, rfl, iteNo (by decide) ?_⟩; refine ⟨_, rfl, rfl, _, rfl, iteNo (by decide) ?_⟩; refine ⟨_, rfl, rfl, _, rfl, iteNo (by decide) ?_⟩; refine ⟨_, rfl, rfl, _, rfl, iteNo (by decide) ?_⟩; refine ⟨_, rfl, rfl, _, rfl, iteNo (by decide) ?_⟩; refine ⟨_, rfl, rfl, _, rfl, iteYes rfl ?_⟩; exact fun a d z1 z2 z3 => ⟨a, C 9, _, some d, rfl, T.ec hn, upd_same, z1, hold _ _ _ _ rfl (sm1 a d _ _ z1 z2)⟩
  | 10, hn => refine ⟨_, rfl, rfl, _, rfl, iteNo (by decide) ?_⟩; refine ⟨_, rfl, rfl, _, rfl, iteNo (by decide) ?_⟩; refine ⟨_, rfl, rfl, _, rfl, iteNo (by decide) ?_⟩; refine ⟨_, rfl, rfl, _, rfl, iteNo (by decide) ?_⟩; refine ⟨_, rfl, rfl, _, rfl, iteNo (by decide) ?_⟩; refine ⟨_, rfl, rfl, _, rfl, iteNo (by decide) ?_⟩; refine ⟨_, rfl, rfl, _, rfl, iteNo (by decide) ?_⟩; refine ⟨_, rfl, rfl, _, rfl, iteNo (by decide) ?_⟩; refine ⟨_, rfl, rfl, _, rfl, iteNo (by decide) ?_⟩; refine ⟨_, rfl, rfl, _, rfl, iteNo (by decide) ?_⟩; refine ⟨_, rfl, rfl, _, rfl, iteNo (by decide) ?_⟩; exact fun a z1 => ⟨a, C 10, _, none, rfl, T.ec hn, upd_same, z1, hold _ _ _ _ rfl (sm0 a _ z1)⟩
  | 11, hn => refine ⟨_, rfl, rfl, _, rfl, iteNo (by decide) ?_⟩; refine ⟨_, rfl, rfl, _, rfl, iteNo (by decide) ?_⟩; refine ⟨_, rfl, rfl, _, rfl, iteNo (by decide) ?_⟩; refine ⟨_, rfl, rfl, _, rfl, iteNo (by decide) ?_⟩; refine ⟨_, rfl, rfl, _, rfl, iteNo (by decide) ?_⟩; refine ⟨_, rfl, rfl, _, rfl, iteNo (by decide) ?_⟩; refine ⟨_, rfl, rfl, _, rfl, iteNo (by decide) ?_⟩; refine ⟨_, rfl, rfl, _, rfl, iteNo (by decide) ?_⟩; refine ⟨_, rfl, rfl, _, rfl, iteNo (by decide) ?_⟩; refine ⟨_, rfl, rfl, _, rfl, iteNo (by decide) ?_⟩; refine ⟨_, rfl, rfl, _, rfl, iteYes rfl ?_⟩; exact fun a d z1 z2 z3 => ⟨a, C 11, _, some d, rfl, T.ec hn, upd_same, z1, hold _ _ _ _ rfl (sm1 a d _ _ z1 z2)⟩
  | n + 12, h => omega
end
end L2.K0


namespace L2.K0
open PySem L2 L2.Bv Bov
theorem scL : FnScope ["script", "deal", "number", "thing", "text", "named", "e", "other", "due"] ["script"] (defScope sLaw) := ⟨rfl, rfl, rfl, by decide +kernel, rfl, by decide +kernel, by decide +kernel⟩
/-- an error of the n-th class stands at a, and keeps v -/
structure ExOf (C : Nat → Addr) (H : Hp) (a : Addr) (n : Nat) (v : V) : Prop where
  yes : n ≠ 10 → ∃ d, H a = some (exo a (C n) (some d)) ∧ H d = some (exd d [(fld n, v)])
  bare : n = 10 → H a = some (exo a (C 10) none)
theorem ExOf.same {C : Nat → Addr} {H H' : Hp} {a : Addr} {n : Nat} {v : V} (s : Same H H') (e : ExOf C H a n v) : ExOf C H' a n v :=
  ⟨fun h => (e.yes h).imp fun d z => ⟨s _ _ z.1, s _ _ z.2⟩, fun h => s _ _ (e.bare h)⟩
theorem ExOf.at {C : Nat → Addr} {H : Hp} {a : Addr} {n : Nat} {v : V} (e : ExOf C H a n v) : ∃ d, ExAt H a (C n) d := by
  by_cases h : n = 10
  · subst h
    exact ⟨none, e.bare rfl, fun _ z => nomatch z⟩
  · obtain ⟨d, h1, h2⟩ := e.yes h
    exact ⟨some d, h1, fun dx z => by
      cases z
      exact ⟨_, h2⟩⟩
def spMade2 (C : Nat → Addr) : Sp := fun vs H Q _ => ∃ (n : Nat) (v : V) (b : Bool), vs = [.int n, v, .bl b] ∧ n < 12 ∧ ∀ (a : Addr) (H' : Hp), Same H H' → ExOf C H' a n v → Q (.ref a) H'
def spLaw (K : PySem.W.Frag) : Sp := fun vs H Q _ => ∃ (a : Addr) (ns : List Int), vs = [.ref a] ∧ SqL K H a (ns.map V.int) ∧ ns.length ≤ 63 ∧ ∀ H', Q (.bl true) H'
theorem eqv1 {xs : List PyData} (h : PyData.canLayAll0 xs = true) : (!PyData.eqv (.list xs) (.list xs)) = false := by
  rw [SeqAt.eqv_refl _ (by simpa [PyData.canLay0] using h)]
  rfl
theorem neDat {xs : List PyData} {A B : Prop} (h : PyData.canLayAll0 xs = true) (q : B) : if (!PyData.eqv (.list xs) (.list xs)) = true then A else B := by
  rw [eqv1 h]
  exact iteF q
theorem decInt (n m : Nat) : decide (V.int (n : Int) = V.int (m : Int)) = decide (n = m) := by
  by_cases h : n = m
  · subst h
    rw [decide_eq_true rfl, decide_eq_true rfl]
  · rw [decide_eq_false h, decide_eq_false fun z => h (by
      injection z with z
      omega)]
theorem neSame {a b : V} {A B : Prop} (h : a = b) (q : B) : if (!decide (a = b)) = true then A else B := iteNS h q
section
variable {P : Program} {w : World} {K : PySem.W.Frag} {mg : Str → Option Value} {base : Heap} {C : Nat → Addr} {pa : Addr}
theorem made2 {f : Addr} {fd : FuncData} (G : FnOk P w K mg base CX0 3 f fd ["number", "thing", "named"] (spMade C)) : FnOk P w K mg base CX0 3 f fd ["number", "thing", "named"] (spMade2 C) := by
  refine G.imp fun vs H Q E h => ?_
  obtain ⟨n, v, b, rfl, hn, q⟩ := h
  refine ⟨n, v, b, rfl, hn, fun h10 a d z1 z2 z3 => ?_, fun h10 a z1 => ?_⟩
  · refine q a _ ((sameNew _ z2).trans (sameNew _ (by rw [upd_ne z3.symm]; exact z1))) ⟨fun _ => ⟨d, upd_same, ?_⟩, fun z => absurd z h10⟩
    rw [upd_ne z3]
    exact upd_same
  · exact q a _ (sameNew _ z1) ⟨fun z => absurd h10 z, fun _ => upd_same⟩
theorem ok_law {f fD fT fM fK fP fC : Addr} {fd dD dT dM dK dP dC : FuncData} (F : Fun K "law" "law" sLaw f fd) (T : Tab P w K mg base C pa)
    (GD : FnOk P w K mg base CX0 1 fD dD ["script", "base"] (spDeal K)) (kD : PySem.W.keepIn K (.ref fD) = true) (bD : Binds K dD ["script", "base"] []) (mD : mg "_law_deal" = some (.ref fD))
    (GT : FnOk P w K mg base CX0 6 fT dT ["deal", "depth"] (spThing K 4)) (kT : PySem.W.keepIn K (.ref fT) = true) (bT : Binds K dT ["deal", "depth"] []) (mT : mg "_law_thing" = some (.ref fT))
    (GM : FnOk P w K mg base CX0 3 fM dM ["number", "thing", "named"] (spMade2 C)) (kM : PySem.W.keepIn K (.ref fM) = true) (bM : Binds K dM ["number", "thing", "named"] []) (mM : mg "_law_made" = some (.ref fM))
    (GK : FnOk P w K mg base CX0 1 fK dK ["e"] (spKinds C)) (kK : PySem.W.keepIn K (.ref fK) = true) (bK : Binds K dK ["e"] []) (mK : mg "_law_kinds" = some (.ref fK))
    (GP : FnOk P w K mg base CX0 1 fP dP ["number", "e"] (spKept C)) (kP : PySem.W.keepIn K (.ref fP) = true) (bP : Binds K dP ["number", "e"] []) (mP : mg "_law_kept" = some (.ref fP))
    (GC : FnOk P w K mg base CX0 3 fC dC ["number"] spCaught) (kC : PySem.W.keepIn K (.ref fC) = true) (bC : Binds K dC ["number"] []) (mC : mg "_law_caught" = some (.ref fC))
    (mr : mg "range" = none) (mre : mg "repr" = none) (mis : mg "isinstance" = none) (mE : mg "Exception" = none) (mV : mg "ValueError" = none) (mKe : mg "KeyError" = none) :
    FnG P w K mg base CX0 7 f fd ["script"] (spLaw K) := by
  refine okG F scL (fun vs H Q E h => ?_) (fun cdv A outer s H vs Q E hr hgd h => ?_)
  · obtain ⟨a, ns, rfl, _⟩ := h
    rfl
  obtain ⟨sa, ns, rfl, hS, hl, q⟩ := h
  have hr1 : Room 1 _ := hr.mono (by decide)
  have hr3 : Room 3 _ := hr.mono (by decide)
  have hu := hr.units
  refine ⟨_, pss_cons (ps_set (i := 1) scL.nd rfl (Or.inl rfl) (pe_call GD hr1 rfl mD kD bD .nil pass0 (pa_cons (pv 0) (pa_cons pe_int pa_nil))))
    (pss_cons (ps_for PassesOwn.never rfl (pi_range1 (by rfl) mr (pa_cons pe_int pa_nil)) (pg_name (i := 2) scL.nd rfl (Or.inl rfl))
      (pss_cons (ps_set (i := 3) scL.nd rfl (Or.inl rfl) (pe_call GT hr rfl mT kT bT .nil pass0 (pa_cons (pv 1) (pa_cons pe_int pa_nil))))
      (pss_cons (ps_set (i := 4) scL.nd rfl (Or.inl rfl) (pe_callB (callRepr hgd hu) (by rfl) mre (by decide +kernel) (pa_cons (pv 3) pa_nil)))
      (pss_cons (ps_for PassesOwn.never rfl (pi_tup (pe_tup (pa_cons pe_bl (pa_cons pe_bl pa_nil)))) (pg_name (i := 5) scL.nd rfl (Or.inl rfl))
        (pss_cons (ps_par (i := 6) (j := 7) (by rfl) scL.nd rfl rfl (by decide) rfl rfl (pa_cons (pe_call GM hr3 rfl mM kM bM .nil pass0 (pa_cons (pv 2) (pa_cons (pv 3) (pa_cons (pv 5) pa_nil))))
            (pa_cons (pe_call GM hr3 rfl mM kM bM .nil pass0 (pa_cons (pv 2) (pa_cons pe_int (pa_cons (pv 5) pa_nil)))) pa_nil)) (by rfl))
        (pss_cons (ps_if (PW.pt (pw_or (pt_cmpR (op_neD hu) (pe_call GK hr1 rfl mK kK bK .nil pass0 (pa_cons (pv 6) pa_nil)) (pe_lst (pa_cons (pv 2) pa_nil)) (nomark _))
            (pw_or (pt_not (pt_val (pe_callB (callIsEx T.hn T.ht) (by rfl) mis (by decide +kernel) (pa_cons (pv 6) (pa_cons (pe_bltn (v := .ty "Exception") (by rfl) mE (by decide +kernel) rfl) pa_nil)))))
            (pw_or1 (pt_val (pe_callB (callIsEx T.hn T.ht) (by rfl) mis (by decide +kernel) (pa_cons (pv 6) (pa_cons (pe_bltn (v := .ty "ValueError") (by rfl) mV (by decide +kernel) rfl) pa_nil))))))))
          (pss_one (ps_ret pe_bl)) pss_nil)
        (pss_cons (ps_if (PW.pt (pw_or (pt_cmpR op_ne (pe_callB (callIsEx T.hn T.ht) (by rfl) mis (by decide +kernel) (pa_cons (pv 6) (pa_cons (pe_glob (v := .ref pa) rfl T.gp rfl) pa_nil))) (pe_cmpR op_ne (pv 2) pe_int (nomark _)) (nomark _))
            (pw_or1 (pt_cmpR op_ne (pe_callB (callIsEx T.hn T.ht) (by rfl) mis (by decide +kernel) (pa_cons (pv 6) (pa_cons (pe_bltn (v := .ty "KeyError") (by rfl) mKe (by decide +kernel) rfl) pa_nil))) (pe_cmpR op_eq (pv 2) pe_int (nomark _)) (nomark _)))))
          (pss_one (ps_ret pe_bl)) pss_nil)
        (pss_cons (ps_set (i := 8) scL.nd rfl (Or.inl rfl) (pe_ifExp (pt_cmpR op_eq (pv 2) pe_int (nomark _)) (pe_lst pa_nil) (pe_lst (pa_cons (pv 3) pa_nil))))
        (pss_one (ps_if (PW.pt (pw_or (pt_cmpR op_ne (pe_callB (callRepr hgd hu) (by rfl) mre (by decide +kernel) (pa_cons (pe_call GP hr1 rfl mP kP bP .nil pass0 (pa_cons (pv 2) (pa_cons (pv 6) pa_nil))) pa_nil))
              (pe_callB (callRepr hgd hu) (by rfl) mre (by decide +kernel) (pa_cons (pv 8) pa_nil)) (nomark _))
            (pw_or (pt_cmpR op_ne (pe_callB (callRepr hgd hu) (by rfl) mre (by decide +kernel) (pa_cons (pv 3) pa_nil)) (pv 4) (nomark _))
            (pw_or1 (pt_cmpR (op_neD hu) (pe_call GP hr1 rfl mP kP bP .nil pass0 (pa_cons (pv 2) (pa_cons (pv 7) pa_nil))) (pe_ifExp (pt_cmpR op_eq (pv 2) pe_int (nomark _)) (pe_lst pa_nil) (pe_lst (pa_cons pe_int pa_nil))) (nomark _))))))
          (pss_one (ps_ret pe_bl)) pss_nil)))))))
      (pss_one (ps_if (pt_cmpR op_ne (pe_call GC hr3 rfl mC kC bC .nil pass0 (pa_cons (pv 2) pa_nil)) (pe_ifExp (pt_cmpR op_eq (pv 2) pe_int (nomark _)) pe_str pe_str) (nomark _)) (pss_one (ps_ret pe_bl)) pss_nil))))))
    (pss_one (ps_ret (pe_and (pe_callB (callIsEx T.hn T.ht) (by rfl) mis (by decide +kernel) (pa_cons (peEx0 PySem.F.excBase_Exception T.xp T.gp T.cp.kC) (pa_cons (pe_bltn (v := .ty "Exception") (by rfl) mE (by decide +kernel) rfl) pa_nil)))
      (pe_and (pe_not (pe_callB (callIsEx T.hn T.ht) (by rfl) mis (by decide +kernel) (pa_cons (peEx0 PySem.F.excBase_Exception T.xp T.gp T.cp.kC) (pa_cons (pe_bltn (v := .ty "ValueError") (by rfl) mV (by decide +kernel) rfl) pa_nil))))
      (pe_one (pe_not (pe_callB (callIsEx T.hn T.ht) (by rfl) mis (by decide +kernel) (pa_cons (peEx0 PySem.F.excBase_Exception T.xp T.gp T.cp.kC) (pa_cons (pe_bltn (v := .ty "KeyError") (by rfl) mKe (by decide +kernel) rfl) pa_nil)))))))))), ?_⟩
  -- deal = _law_deal(script, 100)
  refine ⟨_, rfl, sa, ns, rfl, hS, hl, fun dl cl H1 z1 z2 s1 D1 => ?_⟩
  refine ⟨12, rfl, by decide, by decide, for_range (lo := 0) (n := 12) (fun _ σ H' => ∃ a b c d e f g : Option V, σ = [some (.ref sa), some (.ref dl), a, b, c, d, e, f, g] ∧ DealAt H' dl cl) ⟨none, none, none, none, none, none, none, rfl, D1⟩ ?_ ?_⟩
  · rintro i σ H2 hi ⟨a0, b0, c0, d0, e0, f0, g0, rfl, D2⟩
    rw [Int.zero_add]
    -- thing
    refine ⟨_, rfl, dl, cl, 3, rfl, rfl, D2, fun v H3 d D3 k3 st gd => ?_⟩
    have fits : d.shown.length ≤ sizeLine := PyData.shown_fits_bulk (B := 13) (by decide) (by decide) gd.short (Nat.le_trans gd.small (by decide))
    have dp60 : d.depth ≤ 60 := Nat.le_trans gd.deep (by decide)
    refine ⟨_, rfl, v, d, rfl, st H3 (fun x o _ h => h), gd.shows, gd.plain, dp60, fits, ?_⟩
    refine ⟨by show 2 ≤ sizeLine; decide, fun t ht => ?_⟩
    refine ⟨t, rfl, ⟨_, SqT.of upd_same⟩, for_tup (K := K) (a := t) (xs := [.bl false, .bl true]) (fun _ σ H' => ∃ x5 x6 x7 x8 : Option V, σ = [some (.ref sa), some (.ref dl), some (.int i), some v, some (.str d.shown), x5, x6, x7, x8] ∧ Same (upd H3 t (.tup [.bl false, .bl true])) H') ⟨_, _, _, _, rfl, Same.refl _⟩ ?_ ?_ ?_⟩
    · rintro j σ H' _ ⟨x5, x6, x7, x8, _, sm⟩
      exact SqT.of (sm _ _ upd_same)
    · rintro j x σ H4 hj ⟨x5, x6, x7, x8, rfl, sm⟩
      obtain ⟨b, rfl⟩ : ∃ b, x = V.bl b := by
        match j, hj with
        | 0, hj => exact ⟨false, (Option.some.inj hj).symm⟩
        | 1, hj => exact ⟨true, (Option.some.inj hj).symm⟩
        | j + 2, hj => cases hj
      have sm3 : Same H3 H4 := (sameNew _ ht).trans sm
      -- e, other
      refine ⟨_, rfl, _, rfl, _, rfl, i, v, b, rfl, hi, fun a1 H5 s5 E1 => ⟨_, rfl, _, rfl, i, .int 5, b, rfl, hi, fun a2 H6 s6 E2 => ⟨_, _, rfl, ?_⟩⟩⟩
      have E1' := E1.same s6
      obtain ⟨d1, A1⟩ := E1'.at
      -- the kinds
      refine ⟨_, rfl, a1, i, d1, rfl, hi, A1, fun p1 H7 s7 n7 e7 => ?_⟩
      refine ⟨_, rfl, by show 1 ≤ sizeLine; decide, fun l1 hl1 => ?_⟩
      have s78 := s7.trans (sameNew (.lst [.int i]) hl1)
      refine ⟨.list [.int i], .list [.int i], .lst (SqL.of (by rw [upd_ne (ne_of_none e7 hl1)]; exact e7)) (dpInts [(i : Int)]), .lst (SqL.of upd_same) (dpInts [(i : Int)]), shInts [(i : Int)], shInts [(i : Int)], _, rfl, ?_⟩
      refine neDat (xs := [.int i]) (layInts [(i : Int)]) ?_
      have A2 := ExAt.same s78 A1
      refine ⟨_, rfl, a1, C i, _, d1, _, _, _, rfl, T.ec hi, A2, .ty _, T.kExc hi, _, rfl, iteF ?_⟩
      refine ⟨_, rfl, a1, C i, _, d1, _, _, _, rfl, T.ec hi, A2, .ty _, T.kVal hi, _, rfl, iteF ?_⟩
      -- the bases
      refine ⟨_, rfl, a1, C i, _, d1, _, _, _, rfl, T.ec hi, A2, .own _, T.kPact hi, _, rfl, rfl, rfl, _, rfl, ?_⟩
      have q9 : V.bl (decide (i ≠ 9)) = V.bl (!decide (V.int (i : Int) = V.int 9)) := by
        have z : decide (V.int (i : Int) = V.int 9) = decide (i = 9) := decInt i 9
        rw [z]
        by_cases e : i = 9
        · rw [decide_eq_true e, decide_eq_false (not_not_intro e)]
          rfl
        · rw [decide_eq_false e, decide_eq_true e]
          rfl
      have q9' : V.bl (decide (i = 9)) = V.bl (decide (V.int (i : Int) = V.int 9)) := congrArg V.bl (decInt i 9).symm
      refine neSame q9 ?_
      refine ⟨_, rfl, a1, C i, _, d1, _, _, _, rfl, T.ec hi, A2, .ty _, T.kKey hi, _, rfl, rfl, rfl, _, rfl, neSame q9' ?_⟩
      have s58 : Same H4 (upd H7 l1 (.lst [.int i])) := s5.trans (s6.trans s78)
      have s38 : Same H3 (upd H7 l1 (.lst [.int i])) := sm3.trans s58
      have B1 := E1.same (s6.trans s78)
      have B2 := E2.same s78
      refine ⟨_, rfl, rfl, _, rfl, ?_⟩
      by_cases h10 : i = 10
      · refine iteYes (a := V.int i) (b := V.int 10) (by rw [h10]; rfl) ?_
        refine ⟨by show 0 ≤ sizeLine; decide, fun ld hld => ?_⟩
        have s9 := s38.trans (sameNew (.lst []) hld)
        refine ⟨_, rfl, _, rfl, i, a1, rfl, hi, .inr ⟨h10, fun p hp => ?_⟩⟩
        have s10 := s9.trans (sameNew (.lst []) hp)
        refine ⟨_, .list [], rfl, .lst (SqL.of upd_same) .nil, rfl, rfl, by decide, by decide +kernel, ?_⟩
        refine ⟨_, rfl, _, .list [], rfl, .lst (SqL.of (by rw [upd_ne (ne_of_none upd_same hp)]; exact upd_same)) .nil, rfl, rfl, by decide, by decide +kernel, rfl, _, rfl, neSame rfl ?_⟩
        refine ⟨_, rfl, v, d, rfl, st _ (fun x o _ h => s10 x o h), gd.shows, gd.plain, dp60, fits, _, rfl, rfl, _, rfl, neSame rfl ?_⟩
        refine ⟨_, rfl, _, rfl, i, a2, rfl, hi, .inr ⟨h10, fun p2 hp2 => ?_⟩⟩
        refine ⟨_, rfl, rfl, _, rfl, iteYes (a := V.int i) (b := V.int 10) (by rw [h10]; rfl) ⟨by show 0 ≤ sizeLine; decide, fun l5 hl5 => ?_⟩⟩
        refine ⟨.list [], .list [], .lst (SqL.of (by rw [upd_ne (ne_of_none upd_same hl5)]; exact upd_same)) .nil, .lst (SqL.of upd_same) .nil, by decide +kernel, by decide +kernel, _, rfl, neDat (xs := []) (by decide +kernel) ?_⟩
        exact ⟨_, _, _, _, rfl, sm.trans (s58.trans ((sameNew _ hld).trans ((sameNew _ hp).trans ((sameNew _ hp2).trans (sameNew _ hl5)))))⟩
      · refine iteNo (a := V.int i) (b := V.int 10) (fun z => h10 (by
          injection z with z
          omega)) ?_
        obtain ⟨gl, _⟩ := goodList (j := 3) (ds := [d]) (fun z hz => by rw [List.mem_singleton.mp hz]; exact gd) (by show 1 ≤ 3; decide)
        have fit1 : (PyData.list [d]).shown.length ≤ sizeLine := PyData.shown_fits_bulk (B := 13) (by decide) (by decide) gl.short (Nat.le_trans gl.small (by decide))
        have dp1 : (PyData.list [d]).depth ≤ 60 := Nat.le_trans gl.deep (by decide)
        obtain ⟨x1, u1, u2⟩ := B1.yes h10
        obtain ⟨x2, w1, w2⟩ := B2.yes h10
        refine ⟨_, rfl, by show 1 ≤ sizeLine; decide, fun ld hld => ?_⟩
        have s9 := s38.trans (sameNew (.lst [v]) hld)
        refine ⟨_, rfl, _, rfl, i, a1, rfl, hi, .inl ⟨h10, x1, v, sameNew _ hld _ _ u1, sameNew _ hld _ _ u2, fun p hp => ?_⟩⟩
        have s10 := s9.trans (sameNew (.lst [v]) hp)
        have dv := st _ (fun x o _ h => s10 x o h)
        refine ⟨_, .list [d], rfl, .lst (SqL.of upd_same) (.cons dv .nil), gl.shows, gl.plain, dp1, fit1, ?_⟩
        refine ⟨_, rfl, _, .list [d], rfl, .lst (SqL.of (by rw [upd_ne (ne_of_none upd_same hp)]; exact upd_same)) (.cons dv .nil), gl.shows, gl.plain, dp1, fit1, rfl, _, rfl, neSame rfl ?_⟩
        refine ⟨_, rfl, v, d, rfl, dv, gd.shows, gd.plain, dp60, fits, _, rfl, rfl, _, rfl, neSame rfl ?_⟩
        have s8 : Same (upd H7 l1 (.lst [.int i])) _ := (sameNew (.lst [v]) hld).trans (sameNew (.lst [v]) hp)
        refine ⟨_, rfl, _, rfl, i, a2, rfl, hi, .inl ⟨h10, x2, .int 5, s8 _ _ w1, s8 _ _ w2, fun p2 hp2 => ?_⟩⟩
        refine ⟨_, rfl, rfl, _, rfl, iteNo (a := V.int i) (b := V.int 10) (fun z => h10 (by
          injection z with z
          omega)) ⟨by show 1 ≤ sizeLine; decide, fun l5 hl5 => ?_⟩⟩
        refine ⟨.list [.int 5], .list [.int 5], .lst (SqL.of (by rw [upd_ne (ne_of_none upd_same hl5)]; exact upd_same)) (dpInts [(5 : Int)]), .lst (SqL.of upd_same) (dpInts [(5 : Int)]), shInts [(5 : Int)], shInts [(5 : Int)], _, rfl, neDat (xs := [.int 5]) (layInts [(5 : Int)]) ?_⟩
        exact ⟨_, _, _, _, rfl, sm.trans (s58.trans (s8.trans ((sameNew _ hp2).trans (sameNew _ hl5))))⟩
    · rintro σ H4 ⟨x5, x6, x7, x8, rfl, sm⟩
      have D4 : ∀ H5, Same H4 H5 → DealAt H5 dl cl := fun H5 s5 => by
        obtain ⟨cs, m, e1, e2, r⟩ := (D3.new (.tup [.bl false, .bl true]) ht).ex
        exact ⟨cs, m, s5 _ _ (sm _ _ e1), s5 _ _ (sm _ _ e2), r⟩
      refine ⟨_, rfl, i, rfl, hi, fun H5 s5 => ⟨_, rfl, rfl, _, rfl, ?_⟩⟩
      by_cases e9 : i = 9
      · refine iteYes (a := V.int i) (b := V.int 9) (by rw [e9]; rfl) ⟨rfl, _, rfl, neSame (by rw [if_pos e9]) ?_⟩
        exact ⟨_, _, _, _, _, _, _, rfl, D4 H5 s5⟩
      · refine iteNo (a := V.int i) (b := V.int 9) (fun z => e9 (by
          injection z with z
          omega)) ⟨rfl, _, rfl, neSame (by rw [if_neg e9]) ?_⟩
        exact ⟨_, _, _, _, _, _, _, rfl, D4 H5 s5⟩
  · rintro σ H2 ⟨a0, b0, c0, d0, e0, f0, g0, rfl, D2⟩
    intro a1 n1
    refine ⟨a1, pa, exT, none, _, _, _, rfl, T.cp, ⟨upd_same, fun _ z => nomatch z⟩, .ty _, kitTy T.cp (by decide +kernel), true, rfl, iteT ?_⟩
    intro a2 n2
    refine ⟨a2, pa, exT, none, _, _, _, rfl, T.cp, ⟨upd_same, fun _ z => nomatch z⟩, .ty _, kitTy T.cp (by decide +kernel), false, rfl, true, rfl, iteT ?_⟩
    intro a3 n3
    refine ⟨a3, pa, exT, none, _, _, _, rfl, T.cp, ⟨upd_same, fun _ z => nomatch z⟩, .ty _, kitTy T.cp (by decide +kernel), false, rfl, ?_⟩
    exact q _
end
end L2.K0


namespace L2.K0
open PySem L2 L2.Bv Bov
/-- an error's class as the top has made it, by its name -/
structure CB (K : PySem.W.Frag) (x : Str) (C : Addr) (bm : List Value) (newId : String) : Prop where
  a : PySem.W.nsIn K mainGlobals x = some (some (.ref C))
  l : ∃ q N bs sn sub ab col dd k0 k1 k2 k3 k5, K.lookup C = some (excClassObj x q C N bs bm true sn sub ab col dd k0 k1 k2 k3 k5 newId)
  sa : PySem.W.findIn K (.ref C) "__setattr__" = some (some (.builtin "object.__setattr__"))
  ga : PySem.W.findIn K (.ref C) "__getattribute__" = some (some (.builtin "BaseException.__getattribute__"))
  gg : PySem.W.findIn K (.ref C) "__getattr__" = some none
  ca : PySem.W.findIn K (.ref C) "__class__" = some (some (.builtin "object.__class__"))
  kC : PySem.W.keepIn K (.ref C) = true
/-- with an __init__ -/
structure CF (K : PySem.W.Frag) (x : Str) (C fI : Addr) (f : Str) (bm : List Value) (newId : String) (st : Stmt) (qual : Str) : Prop where
  cb : CB K x C bm newId
  no : PySem.W.findIn K (.ref C) f = some none
  ii : PySem.W.findIn K (.ref C) "__init__" = some (some (.ref fI))
  it : PySem.W.typeIn K (.ref fI) = some (.type "function")
  fn : ∃ (oc kV doc pm cdv ct : Value) (od an : Option Addr) (osl : Array (Option Value)), K.lookup fI = some ⟨oc, od, .func (PySem.W.fnOf "__init__" qual (defArgs st) (defBody st) (defScope st) .none kV doc pm an cdv ct), osl⟩ ∧ PySem.W.codeIn K cdv qual = true
  kf : PySem.W.keepIn K (.ref fI) = true
/-- a def of the top, by its name -/
structure DF (K : PySem.W.Frag) (x : Str) (f : Addr) (st : Stmt) : Prop where
  a : PySem.W.nsIn K mainGlobals x = some (some (.ref f))
  fn : ∃ (oc kV doc pm cdv ct : Value) (od an : Option Addr) (osl : Array (Option Value)), K.lookup f = some ⟨oc, od, .func (PySem.W.fnOf x x (defArgs st) (defBody st) (defScope st) .none kV doc pm an cdv ct), osl⟩ ∧ PySem.W.codeIn K cdv x = true
  kf : PySem.W.keepIn K (.ref f) = true
theorem cbMk {K : PySem.W.Frag} {x : Str} {C : Addr} {bm : List Value} {newId : String} {q : Str} {N : Addr} {bs : List Value} {sn : List Str} {sub : List Value} {ab : Bool} {col : Option Bool} {dd : Option Addr} {k0 k1 k2 k3 k5 : Option Value}
  (a : PySem.W.nsIn K mainGlobals x = some (some (.ref C))) (l : K.lookup C = some (excClassObj x q C N bs bm true sn sub ab col dd k0 k1 k2 k3 k5 newId))
  (sa : PySem.W.findIn K (.ref C) "__setattr__" = some (some (.builtin "object.__setattr__"))) (ga : PySem.W.findIn K (.ref C) "__getattribute__" = some (some (.builtin "BaseException.__getattribute__")))
  (gg : PySem.W.findIn K (.ref C) "__getattr__" = some none) (ca : PySem.W.findIn K (.ref C) "__class__" = some (some (.builtin "object.__class__"))) (kC : PySem.W.keepIn K (.ref C) = true) : CB K x C bm newId :=
  ⟨a, ⟨q, N, bs, sn, sub, ab, col, dd, k0, k1, k2, k3, k5, l⟩, sa, ga, gg, ca, kC⟩
theorem cfMk {K : PySem.W.Frag} {x f qual : Str} {C fI : Addr} {bm : List Value} {newId : String} {st : Stmt} {q : Str} {N : Addr} {bs : List Value} {sn : List Str} {sub : List Value} {ab : Bool} {col : Option Bool} {dd : Option Addr} {k0 k1 k2 k3 k5 : Option Value}
  {oc kV doc pm cdv ct : Value} {od an : Option Addr} {osl : Array (Option Value)}
  (a : PySem.W.nsIn K mainGlobals x = some (some (.ref C))) (l : K.lookup C = some (excClassObj x q C N bs bm true sn sub ab col dd k0 k1 k2 k3 k5 newId))
  (sa : PySem.W.findIn K (.ref C) "__setattr__" = some (some (.builtin "object.__setattr__"))) (ga : PySem.W.findIn K (.ref C) "__getattribute__" = some (some (.builtin "BaseException.__getattribute__")))
  (gg : PySem.W.findIn K (.ref C) "__getattr__" = some none) (ca : PySem.W.findIn K (.ref C) "__class__" = some (some (.builtin "object.__class__"))) (kC : PySem.W.keepIn K (.ref C) = true)
  (no : PySem.W.findIn K (.ref C) f = some none) (ii : PySem.W.findIn K (.ref C) "__init__" = some (some (.ref fI))) (it : PySem.W.typeIn K (.ref fI) = some (.type "function"))
  (ll : K.lookup fI = some ⟨oc, od, .func (PySem.W.fnOf "__init__" qual (defArgs st) (defBody st) (defScope st) .none kV doc pm an cdv ct), osl⟩) (cc : PySem.W.codeIn K cdv qual = true) (kf : PySem.W.keepIn K (.ref fI) = true) : CF K x C fI f bm newId st qual :=
  ⟨cbMk a l sa ga gg ca kC, no, ii, it, ⟨oc, kV, doc, pm, cdv, ct, od, an, osl, ll, cc⟩, kf⟩
theorem dfMk {K : PySem.W.Frag} {x : Str} {f : Addr} {st : Stmt} {oc kV doc pm cdv ct : Value} {od an : Option Addr} {osl : Array (Option Value)}
  (a : PySem.W.nsIn K mainGlobals x = some (some (.ref f))) (ll : K.lookup f = some ⟨oc, od, .func (PySem.W.fnOf x x (defArgs st) (defBody st) (defScope st) .none kV doc pm an cdv ct), osl⟩) (cc : PySem.W.codeIn K cdv x = true)
  (kf : PySem.W.keepIn K (.ref f) = true) : DF K x f st := ⟨a, ⟨oc, kV, doc, pm, cdv, ct, od, an, osl, ll, cc⟩, kf⟩
theorem apart2 {K : PySem.W.Frag} {x y : Str} {C D : Addr} {bm bm' : List Value} {n n' : String} (a : CB K x C bm n) (b : CB K y D bm' n') (h : x ≠ y) : C ≠ D := by
  obtain ⟨q, N, bs, sn, sub, ab, col, dd, k0, k1, k2, k3, k5, e1⟩ := a.l
  obtain ⟨q', N', bs', sn', sub', ab', col', dd', k0', k1', k2', k3', k5', e2⟩ := b.l
  intro e
  subst e
  rw [e1] at e2
  have z := Option.some.inj e2
  injection z with z1 z2 z3 z4
  injection z3 with z5
  injection z5 with z6
  exact h z6
section
variable {K : PySem.W.Frag} {mg : Str → Option Value} {h : Heap} {C fI pa : Addr} {x f qual : Str} {st : Stmt}
theorem ecP (a : CB K x C (bmP pa) "Exception.__new__") : EC K C (bmP pa) where
  cls := by
    obtain ⟨q, N, bs, sn, sub, ab, col, dd, k0, k1, k2, k3, k5, e⟩ := a.l
    exact ⟨_, _, _, _, PySem.F.excBase_Exception, rfl, x, q, N, bs, sn, sub, ab, col, dd, k0, k1, k2, k3, k5, e⟩
  okA := rfl
  okN := rfl
  okO := rfl
  okE := rfl
  pass := fun me => by
    rw [refuseLoop_ref]
    exact PySem.F.store_Exception.passes me
  sa := a.sa
  ga := a.ga
  gg := a.gg
  ca := a.ca
  kC := a.kC
theorem ecE (a : CB K x C exT "Exception.__new__") : EC K C exT where
  cls := by
    obtain ⟨q, N, bs, sn, sub, ab, col, dd, k0, k1, k2, k3, k5, e⟩ := a.l
    exact ⟨_, _, _, _, PySem.F.excBase_Exception, rfl, x, q, N, bs, sn, sub, ab, col, dd, k0, k1, k2, k3, k5, e⟩
  okA := rfl
  okN := rfl
  okO := rfl
  okE := rfl
  pass := fun me => PySem.F.store_Exception.passes me
  sa := a.sa
  ga := a.ga
  gg := a.gg
  ca := a.ca
  kC := a.kC
theorem ecK (a : CB K x C keT "LookupError.__new__") : EC K C keT where
  cls := by
    obtain ⟨q, N, bs, sn, sub, ab, col, dd, k0, k1, k2, k3, k5, e⟩ := a.l
    exact ⟨_, _, _, _, PySem.F.excBase_LookupError, rfl, x, q, N, bs, sn, sub, ab, col, dd, k0, k1, k2, k3, k5, e⟩
  okA := rfl
  okN := rfl
  okO := rfl
  okE := rfl
  pass := fun me => by kernel_rfl
  sa := a.sa
  ga := a.ga
  gg := a.gg
  ca := a.ca
  kC := a.kC
/-- how such an __init__ binds -/
def Bd (st : Stmt) (f qual : Str) : Prop := ∀ (kV doc pm : Value) (an : Option Addr) (cdv ct me u : Value),
  bindArgs (PySem.W.fnOf "__init__" qual (defArgs st) (defBody st) (defScope st) .none kV doc pm an cdv ct) ⟨[me, u], []⟩ = pure ([("self", me), (f, u)] : List (Str × Value)) ∧
  bindArgs (PySem.W.fnOf "__init__" qual (defArgs st) (defBody st) (defScope st) .none kV doc pm an cdv ct) ⟨[me], [(f, u)]⟩ = pure ([("self", me), (f, u)] : List (Str × Value))
theorem exmOf {P : Program} {w : World} {base : Heap} {bm : List Value} {newId : String} {p1 p2 p3 p4 : Pos} (X : K.In h) (G : h.Ns mainGlobals mg) (a : CF K x C fI f bm newId st qual) (T : EC K C bm) (sc : FnScope ["self", f] ["self", f] (defScope st))
    (hb : defBody st = [.Assign [.Attribute (.Name "self" p1) f p2] (.Name f p3) p4]) (hd : (f == ("__debug__" : Str)) = false) (hc : (f == ("__classdict__" : Str)) = false) (v0 : Vis (defScope st) "self") (v1 : Vis (defScope st) f) (kd : (defScope st).kind = .function)
    (bd : Bd st f qual) : ExM P w K mg base C f bm x where
  ec := T
  no := a.no
  gC := PySem.W.mg_of X G a.cb.a
  ini := by
    obtain ⟨oc, kV, doc, pm, cdv, ct, od, an, osl, e, c⟩ := a.fn
    exact ⟨fI, _, a.ii, a.it, okIni (fun_mk (st := st) e c a.kf) T a.no sc hb hd hc v0 v1 kd, fun s me u => .of_eq (bd kV doc pm an cdv ct me u).1, fun s me u => .of_eq (bd kV doc pm an cdv ct me u).2⟩
end
abbrev sI (i : Nat) : Stmt := inClass (top i) 0
theorem bd2 : Bd (sI 2) "at" "InvalidPact.__init__" := fun _ _ _ _ _ _ _ _ => ⟨rfl, rfl⟩
end L2.K0


namespace L2.K0
open PySem L2 L2.Bv Bov
theorem scInvalidPact : FnScope ["self", "at"] ["self", "at"] (defScope (sI 2)) := ⟨rfl, rfl, rfl, by decide +kernel, rfl, by decide +kernel, by decide +kernel⟩
theorem bdInvalidPact : Bd (sI 2) "at" "InvalidPact.__init__" := fun _ _ _ _ _ _ _ _ => ⟨rfl, rfl⟩
theorem scInvalidText : FnScope ["self", "at"] ["self", "at"] (defScope (sI 3)) := ⟨rfl, rfl, rfl, by decide +kernel, rfl, by decide +kernel, by decide +kernel⟩
theorem bdInvalidText : Bd (sI 3) "at" "InvalidText.__init__" := fun _ _ _ _ _ _ _ _ => ⟨rfl, rfl⟩
theorem scInvalidFamily : FnScope ["self", "at"] ["self", "at"] (defScope (sI 4)) := ⟨rfl, rfl, rfl, by decide +kernel, rfl, by decide +kernel, by decide +kernel⟩
theorem bdInvalidFamily : Bd (sI 4) "at" "InvalidFamily.__init__" := fun _ _ _ _ _ _ _ _ => ⟨rfl, rfl⟩
theorem scInvalidMoment : FnScope ["self", "at"] ["self", "at"] (defScope (sI 5)) := ⟨rfl, rfl, rfl, by decide +kernel, rfl, by decide +kernel, by decide +kernel⟩
theorem bdInvalidMoment : Bd (sI 5) "at" "InvalidMoment.__init__" := fun _ _ _ _ _ _ _ _ => ⟨rfl, rfl⟩
theorem scInvalidRun : FnScope ["self", "at"] ["self", "at"] (defScope (sI 6)) := ⟨rfl, rfl, rfl, by decide +kernel, rfl, by decide +kernel, by decide +kernel⟩
theorem bdInvalidRun : Bd (sI 6) "at" "InvalidRun.__init__" := fun _ _ _ _ _ _ _ _ => ⟨rfl, rfl⟩
theorem scInvalidAsk : FnScope ["self", "at"] ["self", "at"] (defScope (sI 7)) := ⟨rfl, rfl, rfl, by decide +kernel, rfl, by decide +kernel, by decide +kernel⟩
theorem bdInvalidAsk : Bd (sI 7) "at" "InvalidAsk.__init__" := fun _ _ _ _ _ _ _ _ => ⟨rfl, rfl⟩
theorem scInvalidRow : FnScope ["self", "at"] ["self", "at"] (defScope (sI 8)) := ⟨rfl, rfl, rfl, by decide +kernel, rfl, by decide +kernel, by decide +kernel⟩
theorem bdInvalidRow : Bd (sI 8) "at" "InvalidRow.__init__" := fun _ _ _ _ _ _ _ _ => ⟨rfl, rfl⟩
theorem scInvalidSize : FnScope ["self", "word"] ["self", "word"] (defScope (sI 10)) := ⟨rfl, rfl, rfl, by decide +kernel, rfl, by decide +kernel, by decide +kernel⟩
theorem bdInvalidSize : Bd (sI 10) "word" "InvalidSize.__init__" := fun _ _ _ _ _ _ _ _ => ⟨rfl, rfl⟩
theorem scRefused : FnScope ["self", "word"] ["self", "word"] (defScope (sI 12)) := ⟨rfl, rfl, rfl, by decide +kernel, rfl, by decide +kernel, by decide +kernel⟩
theorem bdRefused : Bd (sI 12) "word" "Refused.__init__" := fun _ _ _ _ _ _ _ _ => ⟨rfl, rfl⟩
theorem scNoName : FnScope ["self", "name"] ["self", "name"] (defScope (sI 13)) := ⟨rfl, rfl, rfl, by decide +kernel, rfl, by decide +kernel, by decide +kernel⟩
theorem bdNoName : Bd (sI 13) "name" "NoName.__init__" := fun _ _ _ _ _ _ _ _ => ⟨rfl, rfl⟩
theorem scInvalidOffices : FnScope ["self", "at"] ["self", "at"] (defScope (sI 9)) := ⟨rfl, rfl, rfl, by decide +kernel, rfl, by decide +kernel, by decide +kernel⟩
theorem bdInvalidOffices : Bd (sI 9) "at" "InvalidOffices.__init__" := fun _ _ _ _ _ _ _ _ => ⟨rfl, rfl⟩
def nmC (n : Nat) : Str := (["InvalidPact", "InvalidText", "InvalidFamily", "InvalidMoment", "InvalidRun", "InvalidAsk", "InvalidRow", "InvalidSize", "Refused", "NoName", "InvalidCommand", "InvalidOffices"] : List Str).getD n ""
theorem nmInj : ∀ i, i < 12 → ∀ j, j < 12 → nmC i = nmC j → i = j := by decide +kernel
theorem nmOff : ∀ i, i < 12 → nmC i ≠ "PactError" := by decide +kernel
def cTab (C0 C1 C2 C3 C4 C5 C6 C7 C8 C9 C10 C11 : Addr) (n : Nat) : Addr := ([C0, C1, C2, C3, C4, C5, C6, C7, C8, C9, C10, C11] : List Addr).getD n 0
theorem tabMk {P : Program} {w : World} {K : PySem.W.Frag} {mg : Str → Option Value} {base h : Heap} {C0 C1 C2 C3 C4 C5 C6 C7 C8 C9 C10 C11 pa f0 f1 f2 f3 f4 f5 f6 f7 f8 f9 f11 : Addr} (X : K.In h) (G : h.Ns mainGlobals mg)
    (a0 : CF K "InvalidPact" C0 f0 "at" (bmP pa) "Exception.__new__" (sI 2) "InvalidPact.__init__")
    (a1 : CF K "InvalidText" C1 f1 "at" (bmP pa) "Exception.__new__" (sI 3) "InvalidText.__init__")
    (a2 : CF K "InvalidFamily" C2 f2 "at" (bmP pa) "Exception.__new__" (sI 4) "InvalidFamily.__init__")
    (a3 : CF K "InvalidMoment" C3 f3 "at" (bmP pa) "Exception.__new__" (sI 5) "InvalidMoment.__init__")
    (a4 : CF K "InvalidRun" C4 f4 "at" (bmP pa) "Exception.__new__" (sI 6) "InvalidRun.__init__")
    (a5 : CF K "InvalidAsk" C5 f5 "at" (bmP pa) "Exception.__new__" (sI 7) "InvalidAsk.__init__")
    (a6 : CF K "InvalidRow" C6 f6 "at" (bmP pa) "Exception.__new__" (sI 8) "InvalidRow.__init__")
    (a7 : CF K "InvalidSize" C7 f7 "word" (bmP pa) "Exception.__new__" (sI 10) "InvalidSize.__init__")
    (a8 : CF K "Refused" C8 f8 "word" (bmP pa) "Exception.__new__" (sI 12) "Refused.__init__")
    (a9 : CF K "NoName" C9 f9 "name" keT "LookupError.__new__" (sI 13) "NoName.__init__")
    (a11 : CF K "InvalidOffices" C11 f11 "at" (bmP pa) "Exception.__new__" (sI 9) "InvalidOffices.__init__")
    (a10 : CB K "InvalidCommand" C10 (bmP pa) "Exception.__new__") (x10 : PySem.W.excIn K C10 exT "Exception.__new__" = true) (cp : CB K "PactError" pa exT "Exception.__new__") (xp : PySem.W.excIn K pa exT "Exception.__new__" = true)
    (hn : PySem.W.specialIn K (.builtin "object.__class__") "__get__" = some (some (.builtin "getset_descriptor.__get__"))) (ht : PySem.W.takesIn K (.builtin "object.__class__") = some true)
    : Tab P w K mg base (cTab C0 C1 C2 C3 C4 C5 C6 C7 C8 C9 C10 C11) pa := by
  have named : ∀ i, i < 12 → ∃ bm n, CB K (nmC i) (cTab C0 C1 C2 C3 C4 C5 C6 C7 C8 C9 C10 C11 i) bm n := fun i hi => by
    match i, hi with
    | 0, _ => exact ⟨_, _, a0.cb⟩
    | 1, _ => exact ⟨_, _, a1.cb⟩
    | 2, _ => exact ⟨_, _, a2.cb⟩
    | 3, _ => exact ⟨_, _, a3.cb⟩
    | 4, _ => exact ⟨_, _, a4.cb⟩
    | 5, _ => exact ⟨_, _, a5.cb⟩
    | 6, _ => exact ⟨_, _, a6.cb⟩
    | 7, _ => exact ⟨_, _, a7.cb⟩
    | 8, _ => exact ⟨_, _, a8.cb⟩
    | 9, _ => exact ⟨_, _, a9.cb⟩
    | 10, _ => exact ⟨_, _, a10⟩
    | 11, _ => exact ⟨_, _, a11.cb⟩
    | i + 12, hi => omega
  exact {
    m0 := exmOf X G a0 (ecP a0.cb) scInvalidPact rfl (by decide) (by decide) (Or.inl rfl) (Or.inl rfl) rfl bdInvalidPact
    m1 := exmOf X G a1 (ecP a1.cb) scInvalidText rfl (by decide) (by decide) (Or.inl rfl) (Or.inl rfl) rfl bdInvalidText
    m2 := exmOf X G a2 (ecP a2.cb) scInvalidFamily rfl (by decide) (by decide) (Or.inl rfl) (Or.inl rfl) rfl bdInvalidFamily
    m3 := exmOf X G a3 (ecP a3.cb) scInvalidMoment rfl (by decide) (by decide) (Or.inl rfl) (Or.inl rfl) rfl bdInvalidMoment
    m4 := exmOf X G a4 (ecP a4.cb) scInvalidRun rfl (by decide) (by decide) (Or.inl rfl) (Or.inl rfl) rfl bdInvalidRun
    m5 := exmOf X G a5 (ecP a5.cb) scInvalidAsk rfl (by decide) (by decide) (Or.inl rfl) (Or.inl rfl) rfl bdInvalidAsk
    m6 := exmOf X G a6 (ecP a6.cb) scInvalidRow rfl (by decide) (by decide) (Or.inl rfl) (Or.inl rfl) rfl bdInvalidRow
    m7 := exmOf X G a7 (ecP a7.cb) scInvalidSize rfl (by decide) (by decide) (Or.inl rfl) (Or.inl rfl) rfl bdInvalidSize
    m8 := exmOf X G a8 (ecP a8.cb) scRefused rfl (by decide) (by decide) (Or.inl rfl) (Or.inl rfl) rfl bdRefused
    m9 := exmOf X G a9 (ecK a9.cb) scNoName rfl (by decide) (by decide) (Or.inl rfl) (Or.inl rfl) rfl bdNoName
    m11 := exmOf X G a11 (ecP a11.cb) scInvalidOffices rfl (by decide) (by decide) (Or.inl rfl) (Or.inl rfl) rfl bdInvalidOffices
    c10 := ecP a10
    x10 := x10
    g10 := PySem.W.mg_of X G a10.a
    cp := ecE cp
    xp := xp
    gp := PySem.W.mg_of X G cp.a
    apart := fun i j hi hj e => by
      obtain ⟨bm, n, z1⟩ := named i hi
      obtain ⟨bm', n', z2⟩ := named j hj
      by_cases q : nmC i = nmC j
      · exact nmInj i hi j hj q
      · exact absurd e (apart2 z1 z2 q)
    offP := fun i hi => by
      obtain ⟨bm, n, z1⟩ := named i hi
      exact apart2 z1 cp (nmOff i hi)
    hn := hn
    ht := ht }
theorem noThing {P : Program} {w : World} {K : PySem.W.Frag} {mg : Str → Option Value} {base : Heap} {k : Nat} {f : Addr} {fd : FuncData} : FnOk P w K mg base CX0 k f fd ["deal", "depth"] (spThing K 0) := by
  have no : ∀ vs H Q E, ¬ spThing K 0 vs H Q E := fun vs H Q E h => by
    obtain ⟨dl, cl, j, _, z, _⟩ := h
    omega
  exact ⟨fun vs H Q E h => absurd h (no vs H Q E), fun A outer s H args us vs Q E _ _ _ _ h => absurd h (no vs H Q E)⟩
theorem allMk {l : PySem.W.OpenLaw} {w : World} {K : PySem.W.Frag} {h : Heap} {mg : Str → Option Value} {fa : Addr} {C0 C1 C2 C3 C4 C5 C6 C7 C8 C9 C10 C11 pa f0 f1 f2 f3 f4 f5 f6 f7 f8 f9 f11 gD gA gO gT gM gK gP gC gL : Addr} (X : K.In h) (G : h.Ns mainGlobals mg) (hfa : mg "law" = some (.ref fa))
    (a0 : CF K "InvalidPact" C0 f0 "at" (bmP pa) "Exception.__new__" (sI 2) "InvalidPact.__init__")
    (a1 : CF K "InvalidText" C1 f1 "at" (bmP pa) "Exception.__new__" (sI 3) "InvalidText.__init__")
    (a2 : CF K "InvalidFamily" C2 f2 "at" (bmP pa) "Exception.__new__" (sI 4) "InvalidFamily.__init__")
    (a3 : CF K "InvalidMoment" C3 f3 "at" (bmP pa) "Exception.__new__" (sI 5) "InvalidMoment.__init__")
    (a4 : CF K "InvalidRun" C4 f4 "at" (bmP pa) "Exception.__new__" (sI 6) "InvalidRun.__init__")
    (a5 : CF K "InvalidAsk" C5 f5 "at" (bmP pa) "Exception.__new__" (sI 7) "InvalidAsk.__init__")
    (a6 : CF K "InvalidRow" C6 f6 "at" (bmP pa) "Exception.__new__" (sI 8) "InvalidRow.__init__")
    (a7 : CF K "InvalidSize" C7 f7 "word" (bmP pa) "Exception.__new__" (sI 10) "InvalidSize.__init__")
    (a8 : CF K "Refused" C8 f8 "word" (bmP pa) "Exception.__new__" (sI 12) "Refused.__init__")
    (a9 : CF K "NoName" C9 f9 "name" keT "LookupError.__new__" (sI 13) "NoName.__init__")
    (a11 : CF K "InvalidOffices" C11 f11 "at" (bmP pa) "Exception.__new__" (sI 9) "InvalidOffices.__init__")
    (a10 : CB K "InvalidCommand" C10 (bmP pa) "Exception.__new__") (x10 : PySem.W.excIn K C10 exT "Exception.__new__" = true) (cp : CB K "PactError" pa exT "Exception.__new__") (xp : PySem.W.excIn K pa exT "Exception.__new__" = true)
    (hn : PySem.W.specialIn K (.builtin "object.__class__") "__get__" = some (some (.builtin "getset_descriptor.__get__"))) (ht : PySem.W.takesIn K (.builtin "object.__class__") = some true)
    (dD : DF K "_law_deal" gD sDeal)
    (dA : DF K "_law_any" gA sAny)
    (dO : DF K "_law_of" gO sOf)
    (dT : DF K "_law_thing" gT sThing)
    (dM : DF K "_law_made" gM sMade)
    (dK : DF K "_law_kinds" gK sKinds)
    (dP : DF K "_law_kept" gP sKept)
    (dC : DF K "_law_caught" gC sCaught)
    (dL : DF K "law" gL sLaw)
    (zint : PySem.W.nsIn K mainGlobals "int" = some none) (zabs : PySem.W.nsIn K mainGlobals "abs" = some none) (zlen : PySem.W.nsIn K mainGlobals "len" = some none) (zrange : PySem.W.nsIn K mainGlobals "range" = some none) (ztuple : PySem.W.nsIn K mainGlobals "tuple" = some none) (zisinstance : PySem.W.nsIn K mainGlobals "isinstance" = some none) (zenumerate : PySem.W.nsIn K mainGlobals "enumerate" = some none) (zrepr : PySem.W.nsIn K mainGlobals "repr" = some none) (zException : PySem.W.nsIn K mainGlobals "Exception" = some none) (zValueError : PySem.W.nsIn K mainGlobals "ValueError" = some none) (zKeyError : PySem.W.nsIn K mainGlobals "KeyError" = some none)
    : ∃ fd : FuncData, (∀ (s : Shared) (u : Value), BindsTo s fd ⟨[u], []⟩ [("script", u)]) ∧ ∀ base : Heap, K.In base → base.Ns mainGlobals mg → FnG l.prog w K mg base CX0 7 fa fd ["script"] (spLaw K) := by
  have e := hfa.symm.trans (PySem.W.mg_of X G dL.a)
  cases e
  obtain ⟨ocD, kVD, docD, pmD, cdD, ctD, odD, anD, oslD, lD, cD⟩ := dD.fn
  have FD := fun_mk (st := sDeal) lD cD dD.kf
  have bD := FD.binds (ps := ["script", "base"]) fun _ _ _ _ _ _ us hl => match us, hl with | [_, _], _ => rfl
  obtain ⟨ocA, kVA, docA, pmA, cdA, ctA, odA, anA, oslA, lA, cA⟩ := dA.fn
  have FA := fun_mk (st := sAny) lA cA dA.kf
  have bA := FA.binds (ps := ["deal", "bound"]) fun _ _ _ _ _ _ us hl => match us, hl with | [_, _], _ => rfl
  obtain ⟨ocO, kVO, docO, pmO, cdO, ctO, odO, anO, oslO, lO, cO⟩ := dO.fn
  have FO := fun_mk (st := sOf) lO cO dO.kf
  have bO := FO.binds (ps := ["deal", "some"]) fun _ _ _ _ _ _ us hl => match us, hl with | [_, _], _ => rfl
  obtain ⟨ocT, kVT, docT, pmT, cdT, ctT, odT, anT, oslT, lT, cT⟩ := dT.fn
  have FT := fun_mk (st := sThing) lT cT dT.kf
  have bT := FT.binds (ps := ["deal", "depth"]) fun _ _ _ _ _ _ us hl => match us, hl with | [_, _], _ => rfl
  obtain ⟨ocM, kVM, docM, pmM, cdM, ctM, odM, anM, oslM, lM, cM⟩ := dM.fn
  have FM := fun_mk (st := sMade) lM cM dM.kf
  have bM := FM.binds (ps := ["number", "thing", "named"]) fun _ _ _ _ _ _ us hl => match us, hl with | [_, _, _], _ => rfl
  obtain ⟨ocK, kVK, docK, pmK, cdK, ctK, odK, anK, oslK, lK, cK⟩ := dK.fn
  have FK := fun_mk (st := sKinds) lK cK dK.kf
  have bK := FK.binds (ps := ["e"]) fun _ _ _ _ _ _ us hl => match us, hl with | [_], _ => rfl
  obtain ⟨ocP, kVP, docP, pmP, cdP, ctP, odP, anP, oslP, lP, cP⟩ := dP.fn
  have FP := fun_mk (st := sKept) lP cP dP.kf
  have bP := FP.binds (ps := ["number", "e"]) fun _ _ _ _ _ _ us hl => match us, hl with | [_, _], _ => rfl
  obtain ⟨ocC, kVC, docC, pmC, cdC, ctC, odC, anC, oslC, lC, cC⟩ := dC.fn
  have FC := fun_mk (st := sCaught) lC cC dC.kf
  have bC := FC.binds (ps := ["number"]) fun _ _ _ _ _ _ us hl => match us, hl with | [_], _ => rfl
  obtain ⟨ocL, kVL, docL, pmL, cdL, ctL, odL, anL, oslL, lL, cL⟩ := dL.fn
  have FL := fun_mk (st := sLaw) lL cL dL.kf
  have nint := PySem.W.mg_none_of X G zint
  have nabs := PySem.W.mg_none_of X G zabs
  have nlen := PySem.W.mg_none_of X G zlen
  have nrange := PySem.W.mg_none_of X G zrange
  have ntuple := PySem.W.mg_none_of X G ztuple
  have nisinstance := PySem.W.mg_none_of X G zisinstance
  have nenumerate := PySem.W.mg_none_of X G zenumerate
  have nrepr := PySem.W.mg_none_of X G zrepr
  have nException := PySem.W.mg_none_of X G zException
  have nValueError := PySem.W.mg_none_of X G zValueError
  have nKeyError := PySem.W.mg_none_of X G zKeyError
  refine ⟨PySem.W.fnOf "law" "law" (defArgs sLaw) (defBody sLaw) (defScope sLaw) .none kVL docL pmL anL cdL ctL, fun s v => .of_eq rfl, fun base _ _ => ?_⟩
  have T : Tab l.prog w K mg base (cTab C0 C1 C2 C3 C4 C5 C6 C7 C8 C9 C10 C11) pa := tabMk X G a0 a1 a2 a3 a4 a5 a6 a7 a8 a9 a11 a10 x10 cp xp hn ht
  have GA := ok_any (P := l.prog) (w := w) (mg := mg) (base := base) FA nint
  have GO := ok_of (P := l.prog) (w := w) (mg := mg) (base := base) FO GA dA.kf bA (PySem.W.mg_of X G dA.a) nlen
  have GT : ∀ n, FnOk l.prog w K mg base CX0 (n + 2) gT _ ["deal", "depth"] (spThing K n) := fun n => by
    induction n with
    | zero => exact noThing
    | succ n ih => exact ok_thing FT ih bT (PySem.W.mg_of X G dT.a) GA dA.kf bA (PySem.W.mg_of X G dA.a) GO dO.kf bO (PySem.W.mg_of X G dO.a) nrange ntuple
  exact ok_law FL T (ok_deal FD nint nabs) dD.kf bD (PySem.W.mg_of X G dD.a) (GT 4) dT.kf bT (PySem.W.mg_of X G dT.a) (made2 (ok_made FM T)) dM.kf bM (PySem.W.mg_of X G dM.a) (ok_kinds FK T nisinstance nenumerate) dK.kf bK (PySem.W.mg_of X G dK.a)
    (ok_kept FP T) dP.kf bP (PySem.W.mg_of X G dP.a) (ok_caught FC T nKeyError) dC.kf bC (PySem.W.mg_of X G dC.a) nrange nrepr nisinstance nException nValueError nKeyError
theorem walk {l : PySem.W.OpenLaw} {q : Program} {loose : List Str} {XP : (Str → Option Value) → Heap → Prop} {YP : World → Heap → Prop} {d : DefRec} {K : Params → PySem.W.Frag} (hn : l.most = some 63) (hdf : d.params.defaults = [])
    (hY : ∀ (w : World) (h : Heap), YP w h → (K w.params).In h)
    (F : ∀ (w : World) (mg : Str → Option Value) (fa : Addr) (h : Heap), (K w.params).In h → h.Ns mainGlobals mg → mg d.name = some (.ref fa) →
      ∃ fd : FuncData, (∀ (s : Shared) (u : Value), BindsTo s fd ⟨[u], []⟩ [("script", u)]) ∧ ∀ base : Heap, (K w.params).In base → base.Ns mainGlobals mg → FnG l.prog w (K w.params) mg base CX0 7 fa fd ["script"] (spLaw (K w.params))) :
    PySem.W.WalkO q loose XP YP l.row.toRowW d [] (fun f vs => PySem.call f vs) :=
  walkG (n := 63) (k := 7) (x := "script") (sp := fun w => spLaw (K w.params)) hn (by decide) hdf ⟨rfl, by decide, by decide⟩ hY F fun _ _ a ns hl _ hS => ⟨a, ns, rfl, hS, hl, fun _ => rfl⟩
end L2.K0


open PySem PySem.W PyProof.Rows
set_option maxRecDepth 100000 in
set_option maxHeartbeats 0 in
theorem PySem.Challenge.cw_boundorvoid_k00_errors_and_what_they_kee_holds : PySem.Challenge.rw_boundorvoid_k00_errors_and_what_they_kee.Holds := by
  w_on; o_law; k_head; (case hw => w_witness2)
  k_fill
  refine L2.K0.walk (l := PySem.Challenge.rw_boundorvoid_k00_errors_and_what_they_kee) rfl rfl (fun w h Y => PySem.W.kIn_of Y) ?F
  case F =>
    intro w mg fa h KX G hmg
    refine' L2.K0.allMk KX G hmg ?a0 ?a1 ?a2 ?a3 ?a4 ?a5 ?a6 ?a7 ?a8 ?a9 ?a11 ?a10 ?x10 ?cp ?xp ?hn ?ht ?dD ?dA ?dO ?dT ?dM ?dK ?dP ?dC ?dL ?zint ?zabs ?zlen ?zrange ?ztuple ?zisinstance ?zenumerate ?zrepr ?zException ?zValueError ?zKeyError
    (case cp => (refine' L2.K0.cbMk ?a ?l ?sa ?ga ?gg ?ca ?kC; (case a => k_is); (case l => k_is); (case sa => k_is); (case ga => k_is); (case gg => k_is); (case ca => k_is); (case kC => k_is)))
    (case xp => k_exc)
    (case a0 => (refine' L2.K0.cfMk ?a ?l ?sa ?ga ?gg ?ca ?kC ?no ?ii ?it ?ll ?cc ?kf; (case a => k_is); (case l => k_is); (case sa => k_is); (case ga => k_is); (case gg => k_is); (case ca => k_is); (case kC => k_is); (case no => k_is); (case ii => k_is); (case it => k_is); (case ll => k_is); (case cc => k_is); (case kf => k_is)))
    (case a1 => (refine' L2.K0.cfMk ?a ?l ?sa ?ga ?gg ?ca ?kC ?no ?ii ?it ?ll ?cc ?kf; (case a => k_is); (case l => k_is); (case sa => k_is); (case ga => k_is); (case gg => k_is); (case ca => k_is); (case kC => k_is); (case no => k_is); (case ii => k_is); (case it => k_is); (case ll => k_is); (case cc => k_is); (case kf => k_is)))
    (case a2 => (refine' L2.K0.cfMk ?a ?l ?sa ?ga ?gg ?ca ?kC ?no ?ii ?it ?ll ?cc ?kf; (case a => k_is); (case l => k_is); (case sa => k_is); (case ga => k_is); (case gg => k_is); (case ca => k_is); (case kC => k_is); (case no => k_is); (case ii => k_is); (case it => k_is); (case ll => k_is); (case cc => k_is); (case kf => k_is)))
    (case a3 => (refine' L2.K0.cfMk ?a ?l ?sa ?ga ?gg ?ca ?kC ?no ?ii ?it ?ll ?cc ?kf; (case a => k_is); (case l => k_is); (case sa => k_is); (case ga => k_is); (case gg => k_is); (case ca => k_is); (case kC => k_is); (case no => k_is); (case ii => k_is); (case it => k_is); (case ll => k_is); (case cc => k_is); (case kf => k_is)))
    (case a4 => (refine' L2.K0.cfMk ?a ?l ?sa ?ga ?gg ?ca ?kC ?no ?ii ?it ?ll ?cc ?kf; (case a => k_is); (case l => k_is); (case sa => k_is); (case ga => k_is); (case gg => k_is); (case ca => k_is); (case kC => k_is); (case no => k_is); (case ii => k_is); (case it => k_is); (case ll => k_is); (case cc => k_is); (case kf => k_is)))
    (case a5 => (refine' L2.K0.cfMk ?a ?l ?sa ?ga ?gg ?ca ?kC ?no ?ii ?it ?ll ?cc ?kf; (case a => k_is); (case l => k_is); (case sa => k_is); (case ga => k_is); (case gg => k_is); (case ca => k_is); (case kC => k_is); (case no => k_is); (case ii => k_is); (case it => k_is); (case ll => k_is); (case cc => k_is); (case kf => k_is)))
    (case a6 => (refine' L2.K0.cfMk ?a ?l ?sa ?ga ?gg ?ca ?kC ?no ?ii ?it ?ll ?cc ?kf; (case a => k_is); (case l => k_is); (case sa => k_is); (case ga => k_is); (case gg => k_is); (case ca => k_is); (case kC => k_is); (case no => k_is); (case ii => k_is); (case it => k_is); (case ll => k_is); (case cc => k_is); (case kf => k_is)))
    (case a7 => (refine' L2.K0.cfMk ?a ?l ?sa ?ga ?gg ?ca ?kC ?no ?ii ?it ?ll ?cc ?kf; (case a => k_is); (case l => k_is); (case sa => k_is); (case ga => k_is); (case gg => k_is); (case ca => k_is); (case kC => k_is); (case no => k_is); (case ii => k_is); (case it => k_is); (case ll => k_is); (case cc => k_is); (case kf => k_is)))
    (case a8 => (refine' L2.K0.cfMk ?a ?l ?sa ?ga ?gg ?ca ?kC ?no ?ii ?it ?ll ?cc ?kf; (case a => k_is); (case l => k_is); (case sa => k_is); (case ga => k_is); (case gg => k_is); (case ca => k_is); (case kC => k_is); (case no => k_is); (case ii => k_is); (case it => k_is); (case ll => k_is); (case cc => k_is); (case kf => k_is)))
    (case a9 => (refine' L2.K0.cfMk ?a ?l ?sa ?ga ?gg ?ca ?kC ?no ?ii ?it ?ll ?cc ?kf; (case a => k_is); (case l => k_is); (case sa => k_is); (case ga => k_is); (case gg => k_is); (case ca => k_is); (case kC => k_is); (case no => k_is); (case ii => k_is); (case it => k_is); (case ll => k_is); (case cc => k_is); (case kf => k_is)))
    (case a11 => (refine' L2.K0.cfMk ?a ?l ?sa ?ga ?gg ?ca ?kC ?no ?ii ?it ?ll ?cc ?kf; (case a => k_is); (case l => k_is); (case sa => k_is); (case ga => k_is); (case gg => k_is); (case ca => k_is); (case kC => k_is); (case no => k_is); (case ii => k_is); (case it => k_is); (case ll => k_is); (case cc => k_is); (case kf => k_is)))
    (case a10 => (refine' L2.K0.cbMk ?a ?l ?sa ?ga ?gg ?ca ?kC; (case a => k_is); (case l => k_is); (case sa => k_is); (case ga => k_is); (case gg => k_is); (case ca => k_is); (case kC => k_is)))
    (case x10 => k_exc)
    (case hn => k_is); (case ht => k_is)
    (case dD => (refine' L2.K0.dfMk ?a ?ll ?cc ?kf; (case a => k_is); (case ll => k_is); (case cc => k_is); (case kf => k_is)))
    (case dA => (refine' L2.K0.dfMk ?a ?ll ?cc ?kf; (case a => k_is); (case ll => k_is); (case cc => k_is); (case kf => k_is)))
    (case dO => (refine' L2.K0.dfMk ?a ?ll ?cc ?kf; (case a => k_is); (case ll => k_is); (case cc => k_is); (case kf => k_is)))
    (case dT => (refine' L2.K0.dfMk ?a ?ll ?cc ?kf; (case a => k_is); (case ll => k_is); (case cc => k_is); (case kf => k_is)))
    (case dM => (refine' L2.K0.dfMk ?a ?ll ?cc ?kf; (case a => k_is); (case ll => k_is); (case cc => k_is); (case kf => k_is)))
    (case dK => (refine' L2.K0.dfMk ?a ?ll ?cc ?kf; (case a => k_is); (case ll => k_is); (case cc => k_is); (case kf => k_is)))
    (case dP => (refine' L2.K0.dfMk ?a ?ll ?cc ?kf; (case a => k_is); (case ll => k_is); (case cc => k_is); (case kf => k_is)))
    (case dC => (refine' L2.K0.dfMk ?a ?ll ?cc ?kf; (case a => k_is); (case ll => k_is); (case cc => k_is); (case kf => k_is)))
    (case dL => (refine' L2.K0.dfMk ?a ?ll ?cc ?kf; (case a => k_is); (case ll => k_is); (case cc => k_is); (case kf => k_is)))
    (case zint => k_is)
    (case zabs => k_is)
    (case zlen => k_is)
    (case zrange => k_is)
    (case ztuple => k_is)
    (case zisinstance => k_is)
    (case zenumerate => k_is)
    (case zrepr => k_is)
    (case zException => k_is)
    (case zValueError => k_is)
    (case zKeyError => k_is)
