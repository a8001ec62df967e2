import PyProof.Rows.All
import Wide.All
import OpenK.AllK
import Wide.FinOn
import PyProof.EqAt
import PyProof.EqKinds
import PyProof.TupleCall
import PyProof.DictTable
import HandS.Base
import HandS.Call
import HandS.List
import HandS.Ends
import HandS.Dict
import HandS.More
import HandS.Exc
import HandS.ExcOwn
import HandS.ExcValue
import HandS.ExcIs
import HandS.ExcField
import HandS.ExcInit
import HandS.IsInst
import HandS.ForMost
import HandS.ForExc
import HandS.Style
import HandS.Flow
import HandS.Evl
import HandS.RaiseMore
import HandS.StrMore
import HandS.Replace
import HandS.WideBits
import HandS.TupAny
import PyProof.ListStr
import PyProof.StrBlock2
import KE.GoesZip
import KE.GoesMore
import HandS.Zip
import PyProof.ReprRoads
import HandS.EndBits
import HandS.WordsExc
import HandS.TryOnly
import PyProof.NeKinds
import KE.KExcInit
import PySem.Challenge.RW_undername_k01_errors_and_letters
set_option Elab.async false
set_option linter.all false
set_option maxRecDepth 100000
set_option maxHeartbeats 4000000
/-! UnX: own exceptions as values (over any base), made with and without an own __init__, their fields read, isinstance of them. -/
namespace PySem
namespace OXX
open PySem.W PySem.Calls PyProof.Rows PySem.HandSPX
open Builtin Builtin.ObjectAttr
section
variable {M : Model} {A : Around} {E : Value → Shared → Prop} {h : Heap} {g : Array GenState} {d : Drawn} {t : Nat} {os : OsState}
variable {nm q : Str} {C N : Addr} {bs bm bmB : List Value} {hdct : Bool} {sn : List Str} {sub : List Value} {ab : Bool} {col : Option Bool} {dd : Option Addr} {k0 k1 k2 k3 k5 : Option Value} {B newId initId : String}
/-- what the classes behind an own class must hold -/
structure Beh (B : String) (bm : List Value) : Prop where
  b : bm.contains (.type B) = true
  na : bm.contains (.type "AttributeError") = false
  nn : bm.contains (.type "NameError") = false
  ob : bm.contains (.type "object") = true
theorem check_new_x (F : ExcBaseFacts B newId initId bmB) (hT : Beh B bm) {rest : List Value} {Q : Unit → Shared → Prop}
    (hC : h.get? C = some (excClassObj nm q C N bs bm hdct sn sub ab col dd k0 k1 k2 k3 k5 newId)) (hq : Q () ⟨h, g, d, t, os⟩) : wpAny M A (checkBuiltinCall newId ⟨.ref C :: rest, []⟩) Q E ⟨h, g, d, t, os⟩ := by
  have hcont : (Value.ref C :: bm).contains (.type B) = true := by rw [List.contains_cons, hT.b, Bool.or_true]
  have hstar := F.noStar
  simp only [checkBuiltinCall, F.newKind, F.newSplit, F.newRow]
  repeat (first | refine wpAny_loadPart_at hC ?_ | (refine wpAny_isSubtype_exc hC ?_; rw [hcont]) | refine wpAny_staticBase_exc hC ?_ | refine wpAny_madeBy_exc hC ?_ | simp only [bne_self_eq_false, Bool.false_eq_true, if_false] | wp_step)
  exact hq
end
section
variable {prog : Program} {w : World} {A : Around} {E : Value → Shared → Prop} {R : Result → Shared → Prop} {h : Heap} {g : Array GenState} {d : Drawn} {t : Nat} {os : OsState}
variable {nm q : Str} {C N : Addr} {bs bm bmB : List Value} {hdct : Bool} {sn : List Str} {sub : List Value} {ab : Bool} {col : Option Bool} {dd : Option Addr} {k0 k1 k2 k3 k5 : Option Value} {B newId initId : String}
theorem new_x (F : ExcBaseFacts B newId initId bmB) (hT : Beh B bm) {rest : List Value}
    (hC : h.get? C = some (excClassObj nm q C N bs bm hdct sn sub ab col dd k0 k1 k2 k3 k5 newId))
    (hq : R (.ok (.ret (.ref (h.objs.size + 1)))) ⟨(h.push { cls := .type "tuple", data := .seq rest.toArray }).push
      { cls := .ref C, data := .fields #[.ref h.objs.size, .none, .none, .none, .bool false, .none] }, g, d, t, os⟩) (hrest : rest.length ≤ sizeLine) :
    codeAny (model prog w) A (.builtin newId ⟨.ref C :: rest, []⟩) R ⟨h, g, d, t, os⟩ := by
  have hends := F.ends
  have hcB : (Value.ref C :: bm).contains (.type B) = true := by rw [List.contains_cons, hT.b, Bool.or_true]
  have hcA : (Value.ref C :: bm).contains (.type "AttributeError") = false := by rw [List.contains_cons, hT.na]; rfl
  have hcN : (Value.ref C :: bm).contains (.type "NameError") = false := by rw [List.contains_cons, hT.nn]; rfl
  refine codeAny_builtinAt F.entry ?_
  unfold Builtin.«BaseException.__new__»
  refine wpAt_bind ?_
  show wpAt _ _ _ (stack >>= _) _ _ _
  refine wpAt_bind (wpAt_stack fun p below => wpAt_of_wpAny ?_)
  wp_walk
  refine wpAt_of_wpAny ?_
  rw [F.owner]
  repeat (first | with_reducible refine wpAny_madeHere_exc F.canon hC ?_ | with_reducible refine wpAny_loadPart_at hC ?_ | (with_reducible refine wpAny_isSubtype_exc hC ?_; first | rw [hcB] | rw [hcA] | rw [hcN]) | wp_step)
  show R _ _
  rw [Heap.size_push]
  exact hq
theorem type_call_x (F : ExcBaseFacts B newId initId bmB) (hT : Beh B bm) {rest : List Value} {fI : Addr} {Q : Fin → Shared → Prop}
    (hC : h.get? C = some (excClassObj nm q C N bs bm hdct sn sub ab col dd k0 k1 k2 k3 k5 newId))
    (hi : W.Looks (model prog w) h (typeLookup (.ref C) "__init__") (some (.ref fI))) (hb : ∀ self, W.Looks (model prog w) h (bindSpecial (.ref fI) self) (.ref fI, [self])) (hrest : rest.length ≤ sizeLine)
    (hq : codeAny (model prog w) A (.call (.ref fI) ⟨.ref (h.objs.size + 1) :: rest, []⟩)
      (fun r s' => match r with | .ok (.ret v) => v = .none ∧ Q (.done (.ret (.ref (h.objs.size + 1)))) s' | .ok _ => False | .error e => E e s')
      ⟨(h.push (W.kdv_tup rest)).push (excO C h.objs.size), g, d, t, os⟩) :
    wpAny (model prog w) A (Builtin.«type.__call__» ⟨.ref C :: rest, []⟩) Q E ⟨h, g, d, t, os⟩ := by
  repeat (first | with_reducible refine wpAny_loadPart_at hC ?_ | with_reducible refine wpAny_madeBy_exc hC ?_ | wp_step)
  refine codeAny_call_builtin_code (Code.quiet_builtin _ F.quiet) (check_new_x F hT hC ?_)
  refine new_x F hT hC ?_ hrest
  show wpAny _ _ _ _ _ _
  have k : ∀ b o, h.get? b = some o → ((h.push (W.kdv_tup rest)).push (excO C h.objs.size)).get? b = some o := fun b o e => Heap.get?_push_of_some _ (Heap.get?_push_of_some _ e)
  have hC₁ := k _ _ hC
  have hget : ((h.push (W.kdv_tup rest)).push (excO C h.objs.size)).get? (h.objs.size + 1) = some (excO C h.objs.size) := by heap_get
  have hcC : (Value.ref C :: bm).contains (.ref C) = true := by simp
  have i1 := hi.keeps k
  have b1 := (hb (.ref (h.objs.size + 1))).keeps k
  unfold isInstance
  repeat (first | with_reducible refine wpAny_loadPart_at hget ?_ | (with_reducible refine wpAny_isSubtype_exc hC₁ ?_; rw [hcC]) | wp_step)
  show wpAny _ _ (typeLookup (.ref C) _) _ _ _
  refine i1.at ?_
  refine wpAny_holding (wpAny_bind (b1.at ?_))
  refine wpAny_bind (wpAny_call (codeAny_mono hq fun r s' z => ?_))
  rcases r with e | (v | _ | _ | _) <;> first | exact z | exact z.elim | skip
  obtain ⟨rfl, z⟩ := z
  first
    | exact wpAny_pure (wpAny_pure z)
    | (wp_walk; exact z)
theorem call_x (F : ExcBaseFacts B newId initId bmB) (hT : Beh B bm) {rest : List Value} {fI : Addr}
    (hC : h.get? C = some (excClassObj nm q C N bs bm hdct sn sub ab col dd k0 k1 k2 k3 k5 newId))
    (hi : W.Looks (model prog w) h (typeLookup (.ref C) "__init__") (some (.ref fI))) (hb : ∀ self, W.Looks (model prog w) h (bindSpecial (.ref fI) self) (.ref fI, [self])) (hrest : rest.length ≤ sizeLine)
    (hq : codeAny (model prog w) (A.under (.builtin "type.__call__" ⟨.ref C :: rest, []⟩)) (.call (.ref fI) ⟨.ref (h.objs.size + 1) :: rest, []⟩) (W.InitBack (h.objs.size + 1) R)
      ⟨(h.push (W.kdv_tup rest)).push (excO C h.objs.size), g, d, t, os⟩) :
    codeAny (model prog w) A (.call (.ref C) ⟨rest, []⟩) R ⟨h, g, d, t, os⟩ := by
  have f1 := tc_lookup
  have f2 := tc_bind (.ref C)
  have hTy : (⟨h, g, d, t, os⟩ : Shared).TypeIs (.ref C) "type" := ⟨_, hC, rfl⟩
  refine codeAny_of_tree ?_
  show wpAny _ _ (callAny (.ref C) _) _ _ _
  repeat (any_goals (first | assumption | with_reducible refine wpAny_loadPart_at hC ?_ | wp_step))
  refine ⟨rfl, ?_⟩
  refine codeAny_call_builtin_at (Code.quiet_builtin _ (by decide +kernel)) entry_typeCall (wpAny_check_type_call_sub hC (type_call_x F hT hC hi hb hrest ?_))
  refine codeAny_mono hq fun r s' z => ?_
  rcases r with e | (v | _ | _ | _) <;> exact z
end
section
variable {prog : Program} {w : World} {A : Around} {R : Result → Shared → Prop} {hp : Heap} {g : Array GenState} {d : Drawn} {t : Nat} {os : OsState}
theorem osa_x {K : W.Frag} {name : Str} {tk : Tok} {v : Value} {x C : Addr} {fv : Array Value} {cd : ClassData}
    (X : K.In hp) (hx : hp.get? x = some { cls := .ref C, data := .fields fv }) (hcd : W.clsIn K C = some cd) (hne : cd.mro.isEmpty = false) (hob : cd.mro.contains (.type "object") = true) (hps : refuseLoop (.ref x) "__setattr__" cd.mro = pure ()) (hh : cd.hasDict = true) (ha : W.findIn K (.ref C) name = some none)
    (hq : ∀ h' tk' dx, (∀ b o, b ≠ x → hp.get? b = some o → h'.get? b = some o) → hp.objs.size ≤ dx → dx ≠ x → h'.get? x = some { cls := .ref C, dict := some dx, data := .fields fv } →
      h'.Ns1 dx (fun y => if y = name then some v else none) → R (.ok (.ret .none)) ⟨h', g, d, tk', os⟩) :
    codeAny (model prog w) A (.call (.builtin "object.__setattr__") ⟨[.ref x, .str name tk, v], []⟩) R ⟨hp, g, d, t, os⟩ := by
  have I : W.InstAt hp x { cls := .ref C, data := .fields fv } C none := ⟨hx, rfl, rfl, trivial⟩
  have SF := F.store_object
  have hxs : x ≠ hp.objs.size := Nat.ne_of_lt (Heap.lt_size hx)
  have sub : W.Looks (model prog w) hp (isInstance (.ref x) (.type "object")) true := I.type.andThen (W.looks_mroIn X (by unfold W.mroIn; rw [hcd, Option.bind_some, if_neg (by rw [hne]; decide), hob]))
  refine codeAny_call_builtin SF.slot.plain SF.entry (@W.check_slot (model prog w) _ _ ⟨hp, g, d, t, os⟩ "object.__setattr__" "object" "__setattr__" (.ref x) [.str name tk, v] [] _ SF.kind SF.split sub (SF.args (.ref x) (.str name tk) v) ?_)
  have hmr : W.Looks (model prog w) hp (mroOf (.ref C)) cd.mro := (W.looks_clsIn X hcd).andThen .now
  have L3 : W.Looks (model prog w) hp (storeTaker? none) none := .now
  have hcls : W.Looks (model prog w) hp (classData C) cd := W.looks_clsIn X hcd
  rw [W.osa_eq, refuse_eq]
  refine wpAny_bind (wpAny_bind (I.type.at (wpAny_bind (hmr.at ?_))))
  rw [hps]
  refine wpAny_pure (wpAny_bind (I.type.at (wpAny_bind ((W.looks_findIn X ha).at (wpAny_bind (L3.at ?_))))))
  show wpAny _ _ (storeInOwnDict (.ref x) (.ref C) (.str name tk) name v false) _ _ _
  obtain ⟨nm, bs, mro, ns, qn, hd, sn, sb, ab, col, del⟩ := cd
  dsimp only at hh
  subst hh
  unfold storeInOwnDict ownDictForStores
  repeat (first | with_reducible refine store_in_new ?_ ?_ | with_reducible refine wpAny_loadPart_at hx ?_ | with_reducible refine hcls.at ?_ | wp_step)
  · exact ⟨_, #[], _, (Heap.get?_update_ne _ _ _ _ hxs.symm).trans (Heap.get?_push_at rfl rfl), rfl, fun e he => absurd he (by simp), fun _ => rfl⟩
  · intro h' tk' hn' hs
    have hx₁ : (hp.push { cls := .type "dict", data := .dict #[] }).get? x = some { cls := .ref C, data := .fields fv } := Heap.get?_push_of_some _ hx
    refine hq h' tk' hp.objs.size (fun b o hb ho => ?_) (Nat.le_refl _) hxs.symm ?_ hn'
    · exact (hs.2 b (Nat.ne_of_lt (Heap.lt_size ho))).trans ((Heap.get?_update_ne _ _ _ _ hb).trans (Heap.get?_push_of_some _ ho))
    · exact (hs.2 x hxs).trans (Heap.get?_update_self _ hx₁ rfl)
end
end OXX
end PySem
namespace PySem.W
open PySem PySem.Spec PySem.Calls PyProof.Rows
section
variable {prog : Program} {w : World} {A : Around} {E : Value → Shared → Prop} {s : Shared} {K : Frag} {x D : Addr} {ox : Obj} {od : Option Obj}
theorem findObj_dataD {C : Addr} {name : Str} {a g : Value} (hc : (clsIn K C).isSome = true) (ha : findIn K (.ref C) name = some (some a)) (hg : specialIn K a "__get__" = some (some g)) (ht : takesIn K a = some true) : findObj K C od name = some (.bind g a) := by
  obtain ⟨cd, hc⟩ := Option.isSome_iff_exists.mp hc
  unfold findObj
  rw [hc, Option.bind_some, ha, Option.bind_some]
  simp [hg, ht]
theorem kin_classD {Q : Option Value → Shared → Prop} (hga : findIn K (.ref D) "__getattribute__" = some (some (.builtin "BaseException.__getattribute__"))) (hgt : findIn K (.ref D) "__getattr__" = some none) (hsub : subIn K (.ref D) (.type "BaseException") = some true)
    (hdct : hasDictIn K D = true) (ha : findIn K (.ref D) "__class__" = some (some (.builtin "object.__class__")))
    (hn : specialIn K (.builtin "object.__class__") "__get__" = some (some (.builtin "getset_descriptor.__get__"))) (htk : takesIn K (.builtin "object.__class__") = some true) (hm : mroIn K D (.type "object") = some true)
    (X : K.In s.heap) (I : InstAt s.heap x ox D od) (h : Q (some (.ref D)) { s with toks := s.toks + 1 }) : wpAny (model prog w) A (getAttr? (.ref x) "__class__") Q E s := by
  have hf : findObj K D od "__class__" = some (.bind (.builtin "getset_descriptor.__get__") (.builtin "object.__class__")) := findObj_dataD (by obtain ⟨cd, hc, _⟩ := any_some hdct; rw [hc]; rfl) ha hn htk
  obtain ⟨hp, g, d, t, os⟩ := s
  have L0 := I.type (M := model prog w)
  have L1 := looks_findIn (M := model prog w) X hga
  have L2 := looks_findIn (M := model prog w) X hgt
  have L3 := looks_find (M := model prog w) X I hf
  have sub : Looks (model prog w) hp (isInstance (.ref x) (.type "BaseException")) true := L0.andThen (looks_subIn X hsub)
  have hx0 : (false && onTheHeap (Value.builtin "BaseException.__getattribute__")) = false := rfl
  have hx2 : (Value.builtin "BaseException.__getattribute__" == Value.builtin "object.__getattribute__") = false := by decide +kernel
  have hx1 : (onTheHeap (Value.ref D) && Value.builtin "BaseException.__getattribute__" == Value.builtin "object.__getattribute__") = false := by rw [hx2]; rfl
  unfold getAttr? getAttrBy? getAttrBy
  refine wpAny_bind (wpAny_mkText (wpAny_bind (wpAny_attempt (wpAny_holding (wpAny_bind (L0.at (wpAny_bind (L1.at ?_))))))))
  show wpAny _ _ (if (onTheHeap (Value.ref D) && Value.builtin "BaseException.__getattribute__" == Value.builtin "object.__getattribute__") = true then _ else _) _ _ _
  rw [hx1, if_neg Bool.false_ne_true]
  unfold getAttrByItsOwn hookBefore
  refine wpAny_bind ?_
  rw [if_pos (show onTheHeap (Value.ref D) = true from rfl)]
  refine L2.at ?_
  refine wpAny_bind (wpAny_attempt (wpAny_holding ?_))
  unfold callGetattribute
  rw [hx0, if_neg Bool.false_ne_true]
  unfold boundAndCalled
  rw [PySem.F.excAttr_ValueError.ga.bind (.ref x)]
  refine wpAny_bind (wpAny_pure ?_)
  show wpAny _ _ (call (.builtin "BaseException.__getattribute__") [.ref x, .str "__class__" t]) _ _ _
  refine wpAny_call (codeAny_call_builtin PySem.F.excAttr_ValueError.ga.plain PySem.F.entry_bexc_ga ?_)
  refine @check_slot (model prog w) _ _ ⟨hp, g, d, t + 1, os⟩ "BaseException.__getattribute__" "BaseException" "__getattribute__" (.ref x) [.str "__class__" t] [] _ (by decide +kernel) (by decide +kernel) sub (PySem.F.args_bexc_ga (.ref x) (.str "__class__" t)) ?_
  unfold Builtin.«object.__getattribute__»
  refine wpAny_bind (wpAny_of_eq (a := ((Value.ref x : Value), [Value.str "__class__" t])) (by first | rfl | (simp only [slotArgs]; rfl)) ?_)
  refine wpAny_bind (wpAny_pure (wpAny_bind (L0.at (wpAny_bind (L3.at ?_)))))
  show wpAny _ _ (holding [Value.builtin "object.__class__"] (call (.builtin "getset_descriptor.__get__") [.builtin "object.__class__", .ref x, .ref D]) >>= ret) _ _ _
  refine wpAny_bind (wpAny_holding (wpAny_call (class_get (s := ⟨hp, g, d, t + 1, os⟩) (ox := ox) (od := od) X I hm ?_)))
  refine wpAny_pure ?_
  show wpAny _ _ (handedOut (.ref D)) _ _ _
  rw [handedOut_of (v := .ref D) rfl]
  first
    | exact wpAny_pure (wpAny_pure h)
    | exact wpAny_pure h
    | exact wpAny_pure (wpAny_bind (wpAny_pure (wpAny_pure h)))
theorem kitx_excD (hga : findIn K (.ref D) "__getattribute__" = some (some (.builtin "BaseException.__getattribute__"))) (hgt : findIn K (.ref D) "__getattr__" = some none) (hsub : subIn K (.ref D) (.type "BaseException") = some true) (hdct : hasDictIn K D = true) (ha : findIn K (.ref D) "__class__" = some (some (.builtin "object.__class__")))
    (hn : specialIn K (.builtin "object.__class__") "__get__" = some (some (.builtin "getset_descriptor.__get__"))) (htk : takesIn K (.builtin "object.__class__") = some true) (hm : mroIn K D (.type "object") = some true) :
    KitX K (.ref x) (.ref D) (fun h => InstAt h x ox D od) where
  ty := fun _ _ _ I => I.type
  it := fun _ _ X _ => by
    obtain ⟨cdD, hcD, _⟩ := any_some hdct
    unfold clsIn at hcD
    split at hcD
    · rename_i c' d' cd' sl' ho
      intro A' Q' E' s' k q
      unfold isType loadHead
      exact wpAny_bind (wpAny_loadPart (k _ _ (X _ _ ho)) (wpAny_pure q))
    · cases hcD
  ne := fun h tp dd its n sl X htp => by
    obtain ⟨cdD, hcD, _⟩ := any_some hdct
    refine Bool.eq_false_iff.mpr fun q => ?_
    have e : D = tp := Value.ref.inj (beq_iff_eq.mp q)
    subst e
    unfold clsIn at hcD
    split at hcD
    · rename_i c' d' cd' sl' ho
      have z := (X _ _ ho).symm.trans htp
      cases z
    · cases hcD
  ca := fun X I k => kin_classD hga hgt hsub hdct ha hn htk hm X I k
end
end PySem.W
namespace L2
open PySem PySem.Spec PyProof.Rows
/-- an own exception class, over whatever base -/
structure OxC (K : PySem.W.Frag) (C : Addr) : Prop where
  cls : ∃ nm q N bs bm sn sub ab col dd k0 k1 k2 k3 k5 B newId initId bmB, K.lookup C = some (excClassObj nm q C N bs bm true sn sub ab col dd k0 k1 k2 k3 k5 newId) ∧ ExcBaseFacts B newId initId bmB ∧ PySem.OXX.Beh B bm ∧ ∀ self, refuseLoop self "__setattr__" (.ref C :: bm) = pure ()
  sa : PySem.W.findIn K (.ref C) "__setattr__" = some (some (.builtin "object.__setattr__"))
  kC : PySem.W.keepIn K (.ref C) = true
  xf : XfC K C
  is : ExcC K C
  ty : PySem.W.typeIn K (.ref C) = some (.type "type")
  ex : PySem.W.exmOne K (.ref C) (.ref C) = some true
section
variable {X : Cx} {pins : List (Addr × Obj)} {σ : St} {H : Hp} {s : Shared} {a C dx : Addr} {f : Str} {y : V} {u : Value} {fs : List (Str × V)} {Q : Unit → Shared → Prop} {E : Value → Shared → Prop} {A : Around}
/-- self.f = y, the first one -/
theorem oxt_new (T : OxC X.K C) (I : Inv X pins σ H s) (e : H a = some (exo a C none)) (hno : PySem.W.findIn X.K (.ref C) f = some none) (ry : RelV y u)
    (h : ∀ dx s', H dx = none → dx ≠ a → Inv X pins σ (upd (upd H dx (exd dx [(f, y)])) a (exo a C (some dx))) s' → Q () s') : wpAny (model X.prog X.w) A (setAttr (.ref a) f u) Q E s := by
  obtain ⟨nm, q, N, bs, bm, sn, sub, ab, col, dd, k0, k1, k2, k3, k5, B, newId, initId, bmB, hC, FB, BB, hps⟩ := T.cls
  have hcl : PySem.W.clsIn X.K C = some { name := nm, bases := bs, mro := .ref C :: bm, ns := N, qualname := q, hasDict := true, slotNames := sn, subclasses := sub, abstract := ab, collection := col, hasDel := false } := by unfold PySem.W.clsIn; rw [hC] <;> rfl
  obtain ⟨t1, ho⟩ := exo_at I.hok e
  obtain ⟨hp, g, d, t, os⟩ := s
  refine PySem.W.set_plain I.kIn (ox := { cls := .ref C, dict := none, data := .fields #[.ref t1, .none, .none, .none, .bool false, .none] }) (od := none) ⟨ho, rfl, rfl, trivial⟩ T.sa ?_
  refine PySem.OXX.osa_x I.kIn ho hcl rfl (show (Value.ref C :: bm).contains (.type "object") = true by rw [List.contains_cons, BB.ob, Bool.or_true]) (hps _) rfl hno (fun h' tk' dx k dn dne hx hn => ?_)
  have hnd : H dx = none := I.hok.fresh dn
  have nd : ∀ {b : Addr} {o : Obj}, hp.get? b = some o → b ≠ dx := fun {b o} q => Nat.ne_of_lt (Nat.lt_of_lt_of_le (Heap.lt_size q) dn)
  have na : ∀ {b : Addr}, H b = none → b ≠ a := fun {b} n z => by
    rw [z, e] at n
    cases n
  have Un1 : Un X.fs [] H (upd (upd H dx (exd dx [(f, y)])) a (exo a C (some dx))) hp h' := {
    keep := fun b o q n _ _ => k b o (na n) q
    slot := fun b o q n _ _ => ⟨o.slots, k b o (na n) q⟩
    free := fun b o q n _ => by rw [upd_ne (na n), upd_ne (nd q)]; exact n
    there := fun b o q _ => by
      by_cases hb : b = a
      · exact ⟨_, by rw [hb]; exact hx⟩
      · exact ⟨o, k b o hb q⟩
    tups := fun b xs q => by rw [upd_ne (at_ne e q exo_tup), upd_ne (ne_of_none q hnd)]; exact q
    frzs := fun b o v q => by rw [upd_ne (at_ne e q exo_frz), upd_ne (ne_of_none q hnd)]; exact q
    tbls := fun b ps q => ⟨#[], by rw [upd_ne (at_ne e q exo_tbl), upd_ne (ne_of_none q hnd), q]; simp⟩ }
  refine h dx _ hnd dne (I.un (t' := tk') Un1 fun b o q => ?_)
  by_cases hb : b = a
  · subst hb
    rw [upd_same] at q
    cases q
    exact exo_ok hx
  · rw [upd_ne hb] at q
    by_cases hd : b = dx
    · subst hd
      rw [upd_same] at q
      cases q
      exact exd_ok hn (relO_put (fs := []) ry fun g => True.intro)
    · rw [upd_ne hd] at q
      exact (I.hok b o q).stay (fun c v hc z => k c v (by
          rcases hc with hc | hc
          · rw [hc]
            exact hb
          · exact at_ne e hc exo_own) z)
        (fun c hc => by rw [upd_ne (at_ne e hc exo_own), upd_ne (ne_of_none hc hnd)]; exact hc) (fun c xs hc => by rw [upd_ne (at_ne e hc exo_tup), upd_ne (ne_of_none hc hnd)]; exact hc)
end
/-- self.f = e, the first one -/
def tOxt (K : PySem.W.Frag) (f : Str) (to te : TE) : TS := fun D σ H => te σ H fun y H1 => to σ H1 fun x H2 => ∃ a C : Addr, x = .ref a ∧ OxC K C ∧ PySem.W.findIn K (.ref C) f = some none ∧
  (H2 a = some (exo a C none) ∧ ∀ dx, H2 dx = none → dx ≠ a → D.nx σ (upd (upd H2 dx (exd dx [(f, y)])) a (exo a C (some dx))))
/-- the promise of such an __init__: one field -/
def SpXI (K : PySem.W.Frag) (f : Str) : Sp := fun vs H Q _ => ∃ a v C, vs = [.ref a, v] ∧ OxC K C ∧ PySem.W.findIn K (.ref C) f = some none ∧ H a = some (exo a C none) ∧
  ∀ dx, H dx = none → dx ≠ a → Q .non (upd (upd H dx (exd dx [(f, v)])) a (exo a C (some dx)))
/-- C(e), C with such an __init__ -/
def tMkX (C : Addr) (f : Str) (te : TE) : TE := fun σ H Q => te σ H fun v H1 => ∀ a dx, H1 a = none → H1 dx = none → dx ≠ a → Q (.ref a) (upd (upd (upd H1 a (exo a C none)) dx (exd dx [(f, v)])) a (exo a C (some dx)))
/-- C() -/
def tMkN (C : Addr) : TE := fun _ H Q => ∀ a, H a = none → Q (.ref a) (upd H a (exo a C none))
section
variable {X : Cx} {o e : Expr} {es : List Expr} {to te : TE} {f x n : Str} {p p' pos : Pos} {C fI : Addr} {k : Nat} {fd : FuncData} {ps : List Str} {CX : CXT}
theorem ps_oxt (ho : PE X o to) (he : PE X e te) (hs : swapsWith e (some (.Attribute o f p')) pos.line X.env = pure false := by rfl) : PS X (.Assign [.Attribute o f p'] e pos) (tOxt X.K f to te) := by
  refine ⟨fun pins s σ H D I h => ?_⟩
  refine plainObj_wpAny_Assign_Attribute (thn (he.run pins s σ H _ I h) fun v s1 ⟨y, H1, I1, r1, q1⟩ => thn (ho.run pins s1 σ H1 _ I1 q1) fun u s2 ⟨x, H2, I2, r2, a, C, ex, T, hno, ea, q⟩ => ?_) hs
  subst ex
  obtain rfl : u = Value.ref a := r2
  exact oxt_new T I2 ea hno r1 fun dx s' n ne J => ⟨σ, _, J, q dx n ne⟩
theorem pe_mkN {bmB : List Value} {B newId initId : String} (F : ExcBaseFacts B newId initId bmB) (q : PySem.W.excIn X.K C bmB newId = true) (gC : X.mg x = some (.ref C)) (kC : PySem.W.keepIn X.K (.ref C) = true) (hg : Gl X x)
    (hdb : (x == ("__debug__" : Str)) = false := by decide) : PE X (.Call (.Name x p) [] [] pos) (tMkN C) := by
  refine ⟨fun pins s σ H Q I h => ?_⟩
  refine wpAny_Call_Name_kw (ld_glob I hg gC ?_ hdb)
  refine PySem.W.callWith_K0 (K := X.K) (I.tok _).kIn kC ?_
  show wpAny _ _ (call (.ref C) []) _ _ _
  obtain ⟨bm, N, nm, qn, bs, hdct, sn, sub, ab, col, dd, k0, k1, k2, k3, k5, mN, hC, hN, hni, T⟩ := exc_obj (I.tok _).kIn q
  refine wpAny_call_exc_subT F T hC hN hni (fun h' a hm => ?_) (by show 0 ≤ sizeLine; omega)
  have hn : H a = none := I.hok.gone hm.new
  obtain ⟨t, ht, _, _⟩ := hm.there
  exact ⟨.ref a, upd H a (exo a C none), I.laidN hm.keeps hm.new hn (exo_ok ht), rfl, h a hn⟩
theorem pe_mkX (T : OxC X.K C) (iC : PySem.W.findIn X.K (.ref C) "__init__" = some (some (.ref fI))) (tI : PySem.W.typeIn X.K (.ref fI) = some (.type "function")) (hno : PySem.W.findIn X.K (.ref C) f = some none)
    (F1 : FnOk X.prog X.w X.K X.mg X.base CX k fI fd ps (SpXI X.K f)) (hr : Room (k + 1) X.A) (hb : Binds X.K fd ps []) (hx : Passes CX X (fun _ _ _ => False)) (hg : Gl X x) (hm : X.mg x = some (.ref C)) (ha : PE X e te)
    (hdb : (x == ("__debug__" : Str)) = false := by decide) (he : starEach (e :: []) X.env = (false, eval e X.env) :: starEach [] X.env := by rfl) (hpl : (backTo pos (starEach [] X.env)).any (·.1) = false := by rfl) :
    PE X (.Call (.Name x p) [e] [] pos) (tMkX C f te) := by
  refine ⟨fun pins s σ H Q I h => ?_⟩
  obtain ⟨nm, q, N, bs, bm, sn, sub, ab, col, dd, k0, k1, k2, k3, k5, B, newId, initId, bmB, hC, FB, BB, hps⟩ := T.cls
  refine wpAny_Call_Name_kw (ld_glob I hg hm ?_ hdb)
  have hA : PA X [e] (tCons te tNil) := pa_cons ha pa_nil he
  refine PySem.W.callWith_K (h₀ := X.base) I.ok.mod.kin T.kC (thn (hA.run pos pins s σ H (fun vs H1 => match vs with | [v] => (∀ a dx, H1 a = none → H1 dx = none → dx ≠ a → Q (.ref a) (upd (upd (upd H1 a (exo a C none)) dx (exd dx [(f, v)])) a (exo a C (some dx)))) | _ => False) I h) fun us s1 ⟨vs, H1, I1, r1, q1⟩ => ⟨I1.kIn, ?_⟩) he hpl
  show wpAny _ _ (call (.ref C) us) _ _ _
  obtain ⟨v, rfl⟩ : ∃ v, vs = [v] := by
    rcases vs with _ | ⟨v, _ | ⟨v2, vs⟩⟩
    · exact q1.elim
    · exact ⟨v, rfl⟩
    · exact q1.elim
  replace q1 : ∀ a dx, H1 a = none → H1 dx = none → dx ≠ a → Q (.ref a) (upd (upd (upd H1 a (exo a C none)) dx (exd dx [(f, v)])) a (exo a C (some dx))) := q1
  obtain ⟨hp, g, dr, tk, os⟩ := s1
  have hsz : hp.objs.size ≤ hp.objs.size + 1 := Nat.le_succ _
  have hn : H1 (hp.objs.size + 1) = none := I1.hok.fresh hsz
  have hq : SpXI X.K f [.ref (hp.objs.size + 1), v] (upd H1 (hp.objs.size + 1) (exo (hp.objs.size + 1) C none)) (fun r H2 => r = .non ∧ Q (.ref (hp.objs.size + 1)) H2) (fun _ _ _ => False) :=
    ⟨_, v, C, rfl, T, hno, upd_same, fun dx hd hda => ⟨rfl, q1 _ dx hn (by rw [upd_ne hda] at hd; exact hd) hda⟩⟩
  have kk : ∀ b o, hp.get? b = some o → ((hp.push (PySem.W.kdv_tup us)).push (PySem.HandSPX.excO C hp.objs.size)).get? b = some o := fun b o e => Heap.get?_push_of_some _ (Heap.get?_push_of_some _ e)
  have hget : ((hp.push (PySem.W.kdv_tup us)).push (PySem.HandSPX.excO C hp.objs.size)).get? (hp.objs.size + 1) = some (PySem.HandSPX.excO C hp.objs.size) := by heap_get
  have I2 : Inv X pins σ (upd H1 (hp.objs.size + 1) (exo (hp.objs.size + 1) C none)) ⟨(hp.push (PySem.W.kdv_tup us)).push (PySem.HandSPX.excO C hp.objs.size), g, dr, tk, os⟩ :=
    I1.laid (t' := tk) (a := hp.objs.size + 1) (o := exo (hp.objs.size + 1) C none) (h' := (hp.push (PySem.W.kdv_tup us)).push (PySem.HandSPX.excO C hp.objs.size)) kk hsz (exo_ok hget)
  have r2 : Vals (V.ref (hp.objs.size + 1) :: ([v] ++ [])) (Value.ref (hp.objs.size + 1) :: (us ++ [])) := .cons rfl (r1.append .nil)
  have hl : (Value.ref (hp.objs.size + 1) :: us ++ []).length = ps.length := by
    have e := r2.length
    have e3 := F1.len _ _ _ _ hq
    simp only [List.length_cons, List.length_append, List.length_nil] at e e3 ⊢
    omega
  have hus : us.length ≤ sizeLine := by
    rw [← Paired.length r1, sizeLine_eq]
    simp
  refine wpAny_call (PySem.OXX.call_x FB BB (I1.kIn _ _ hC) (PySem.W.looks_findIn I1.kIn iC) (fun self => PySem.W.bind_fn I1.kIn self tI) hus
    (codeAny_mono (F1.run _ X.stack _ _ ⟨Value.ref (hp.objs.size + 1) :: us, []⟩ (Value.ref (hp.objs.size + 1) :: us ++ []) _ _ (fun _ _ _ => False) (hr.make C us []) (I2.env0.make C us []) (hb _ (Value.ref (hp.objs.size + 1) :: us) I2.kIn hl) r2 hq) fun r s' hq' => ?_))
  cases r with
  | error er => exact hx pins σ _ _ er s' I2 hq'
  | ok fl =>
    cases fl with
    | ret u =>
      obtain ⟨w, H2, os2, bare2, un2, hok2, rv, ev, q2⟩ := hq'
      subst ev
      exact ⟨rv, .ref (hp.objs.size + 1), H2, I2.call' (ch := []) os2 un2 hok2 bare2 (fun b z => absurd z (by simp)), rfl, q2⟩
    | next => exact False.elim hq'
    | brk => exact False.elim hq'
    | cont => exact False.elim hq'
/-- err.f -/
def tXfl (K : PySem.W.Frag) (n : Str) (te : TE) : TE := fun σ H Q => te σ H fun x H1 => ∃ (a C d : Addr) (fs : List (Str × V)) (v : V), x = .ref a ∧ XfC K C ∧ PySem.W.findIn K (.ref C) n = some none ∧ H1 a = some (exo a C (some d)) ∧ H1 d = some (exd d fs) ∧ fs.lookup n = some v ∧ Q v H1
theorem pe_xfl (he : PE X e te) (hb : attributeBase e n X.env (eval e X.env) = eval e X.env := by rfl) : PE X (.Attribute e n pos) (tXfl X.K n te) := by
  refine ⟨fun pins s σ H Q I h => ?_⟩
  refine attr_of hb (thn (he.run pins s σ H _ I h) fun u s1 hh => ?_)
  obtain ⟨x, H1, I1, rx, a, C, d, fs, v, ex, T, hno, ea, ed, l, q⟩ := hh
  subst ex
  obtain rfl : u = Value.ref a := rx
  obtain ⟨t1, ho⟩ := exo_at I1.hok ea
  obtain ⟨mA, hns, hr⟩ := exd_at I1.hok ed
  obtain ⟨od, ho2, hl⟩ := lookIn_ns hns
  obtain ⟨u, hu, ru⟩ := RelO.some_of (v := v) (o := mA n) (by rw [← l]; exact hr n)
  have J : PySem.W.InstAt s1.heap a { cls := .ref C, dict := some d, data := .fields #[.ref t1, .none, .none, .none, .bool false, .none] } C (some od) := ⟨ho, rfl, rfl, ho2⟩
  exact HandSPX.exc_get I1.kIn J T.ga T.gg T.exC (PySem.W.findObj_own T.hdC hno rfl (by rw [hl, hu])) (handed_of ru) ⟨v, H1, I1.tok _, ru, q⟩
/-- isinstance(err, c) -/
def rIsX (K : PySem.W.Frag) : List V → Hp → VK → Prop := fun xs H Q => ∃ (a C : Addr) (d : Option Addr) (c : V) (u : Value) (b : Bool), xs = [.ref a, c] ∧ H a = some (exo a C d) ∧ (∀ dx, d = some dx → ∃ fs, H dx = some (exd dx fs)) ∧ ExcC K C ∧ ClsV c u ∧ PySem.W.kitOne K (.ref C) u = some b ∧ Q (.bl b) H
theorem call_isX : CallR X (.builtin "isinstance") (rIsX X.K) := by
  intro pins s σ H xs us Q I r h
  obtain ⟨a, C, d, c, cv, b, rfl, ea, hd, T, k, e, q⟩ := h
  obtain ⟨u1, u2, rfl, r1, r2⟩ := vals2 r
  have e2 := k.eq r2
  subst e2
  cases (show u1 = Value.ref a from r1)
  obtain ⟨t1, ho⟩ := exo_at I.hok ea
  have hod : ∃ od : Option Obj, PySem.W.InstAt s.heap a { cls := .ref C, dict := d, data := .fields #[.ref t1, .none, .none, .none, .bool false, .none] } C od := by
    cases d with
    | none => exact ⟨none, ho, rfl, rfl, trivial⟩
    | some dx =>
      obtain ⟨fs, ed⟩ := hd dx rfl
      obtain ⟨mA, hns, hr⟩ := exd_at I.hok ed
      obtain ⟨od, ho2, hl⟩ := lookIn_ns hns
      exact ⟨some od, ho, rfl, rfl, ho2⟩
  obtain ⟨od, J⟩ := hod
  exact PySem.W.kia_one (PySem.W.kitx_excD T.hg T.hk T.hs T.hd T.ha T.hn T.ht T.hm) I.kIn J e (fun z => nomatch z) fun tk => ⟨.bl b, H, I.tok tk, rfl, q⟩
end
end L2

namespace Un
open PySem PySem.Spec PyProof.Rows L2

/-! ### defs as they stand, and as they keep a promise -/
def At (K : PySem.W.Frag) (mg : Str → Option Value) (nm : Str) (st : Stmt) (ps : List Str) : Prop :=
  ∃ (f : Addr) (fd : FuncData), Fun K nm nm st f fd ∧ mg nm = some (.ref f) ∧ Binds K fd ps []
def Cl (P : Program) (w : World) (K : PySem.W.Frag) (mg : Str → Option Value) (base : Heap) (nm : Str) (ps : List Str) (k : Nat) (sp : Sp) : Prop :=
  ∃ (f : Addr) (fd : FuncData), mg nm = some (.ref f) ∧ FnOk P w K mg base CX0 k f fd ps sp ∧ PySem.W.keepIn K (.ref f) = true ∧ Binds K fd ps []
theorem cl_of {P : Program} {w : World} {K : PySem.W.Frag} {mg : Str → Option Value} {base : Heap} {nm : Str} {st : Stmt} {ps : List Str} {k : Nat} {sp : Sp}
    (a : At K mg nm st ps) (h : ∀ f fd, Fun K nm nm st f fd → FnOk P w K mg base CX0 k f fd ps sp) : Cl P w K mg base nm ps k sp := by
  obtain ⟨f, fd, F, m, b⟩ := a
  exact ⟨f, fd, m, h f fd F, F.kp, b⟩
section
variable {X : Cx} {nm : Str} {ps : List Str} {j k : Nat} {sp : Sp} {e : Expr} {es : List Expr} {t : TA} {p pos : Pos}
theorem pe_cl (c : Cl X.prog X.w X.K X.mg X.base nm ps k sp) (hr : Room k X.A) (hg : Gl X nm) (ha : PA X (e :: es) t)
    (hdb : (nm == ("__debug__" : Str)) = false := by decide) (he : starEach (e :: es) X.env = (false, eval e X.env) :: starEach es X.env := by rfl) (hpl : (backTo pos (starEach es X.env)).any (·.1) = false := by rfl) :
    PE X (.Call (.Name nm p) (e :: es) [] pos) (tCall sp [] E0 t) := by
  obtain ⟨f, fd, m, F, kp, b⟩ := c
  exact pe_call F hr hg m kp b .nil pass0 ha hdb he hpl
theorem pe_cl0 (c : Cl X.prog X.w X.K X.mg X.base nm ps k sp) (hr : Room k X.A) (hg : Gl X nm)
    (hdb : (nm == ("__debug__" : Str)) = false := by decide) : PE X (.Call (.Name nm p) [] [] pos) (tCall sp [] E0 tNil) := by
  obtain ⟨f, fd, m, F, kp, b⟩ := c
  exact pe_call0 F hr hg m kp b .nil pass0 hdb
end

/-! ### texts as lists of sgs -/
def tx (l : List Nat) : Str := ⟨l.toArray⟩
theorem tx_cps (l : List Nat) : (tx l).cps.toList = l := by simp [tx]
theorem tx_len (l : List Nat) : (tx l).length = l.length := by simp [tx, Str.length]
theorem tx_inj {a b : List Nat} (h : tx a = tx b) : a = b := by
  have := congrArg (fun s : Str => s.cps.toList) h
  simpa [tx] using this
theorem tx_eq {a b : List Nat} : tx a = tx b ↔ a = b := ⟨tx_inj, fun h => by rw [h]⟩
theorem tx_of (s : Str) : tx s.cps.toList = s := by
  cases s with
  | mk c => simp [tx]
theorem tx_app (a b : List Nat) : tx a ++ tx b = tx (a ++ b) := by
  have e : (tx a ++ tx b) = (⟨(tx a).cps ++ (tx b).cps⟩ : Str) := rfl
  rw [e]
  simp [tx]
theorem tx_one (c : Nat) : (⟨#[c]⟩ : Str) = tx [c] := rfl

/-! ### rules for built-ins -/
def scalR : V → Prop
  | .non => True
  | .bl _ => True
  | .int i => i.natAbs.log2 < 1920
  | .str x => (reprText x).length ≤ sizeLine
  | _ => False
def reprS : V → Str
  | .non => "None"
  | .bl b => if b then "True" else "False"
  | .int i => toString i
  | .str x => reprText x
  | _ => ""
def rRepr : List V → Hp → VK → Prop := fun xs H Q => ∃ x, xs = [x] ∧ scalR x ∧ Q (.str (reprS x)) H
section
variable {X : Cx}
theorem call_reprS : CallR X (.builtin "repr") rRepr := by
  intro pins s σ H xs us Q I r h
  obtain ⟨x, rfl, hx, q⟩ := h
  obtain ⟨u, rfl, rx⟩ := vals1 r
  cases x with
  | non => cases rx; exact PySem.P.repr_of_none ⟨.str _, H, I.tok _, ⟨_, rfl⟩, q⟩
  | bl b => cases rx; exact PySem.P.repr_of_bool ⟨.str _, H, I.tok _, ⟨_, rfl⟩, q⟩
  | int i => obtain ⟨t, rfl⟩ := rx; exact PySem.P.repr_of_int hx ⟨.str _, H, I.tok _, ⟨_, rfl⟩, q⟩
  | str y => obtain ⟨t, rfl⟩ := rx; exact PySem.P.repr_of_str ⟨.str _, H, I.tok _, ⟨_, rfl⟩, q⟩ (hsz := hx)
  | _ => exact hx.elim
def sgs (l : List Nat) : List V := l.map fun c => V.str (tx [c])
theorem vals_of_get : ∀ {xs : List V} {us : List Value}, xs.length = us.length → (∀ (i : Nat) (x : V) (u : Value), xs[i]? = some x → us[i]? = some u → RelV x u) → Vals xs us
  | [], [], _, _ => .nil
  | [], _ :: _, h, _ => by simp at h
  | _ :: _, [], h, _ => by simp at h
  | x :: xs, u :: us, h, f => .cons (f 0 x u rfl rfl) (vals_of_get (by simpa using h) fun i a b ha hb => f (i + 1) a b (by simpa using ha) (by simpa using hb))
theorem call_list_strR (hc : X.calm = true) : CallR X (.type "list") (fun xs H Q => ∃ l : List Nat, xs = [.str (tx l)] ∧ l.length ≤ sizeLine ∧ ∀ p, H p = none → Q (.ref p) (upd H p (.lst (sgs l)))) := by
  intro pins s σ H xs us Q I r h
  obtain ⟨l, rfl, hl, q⟩ := h
  obtain ⟨u, rfl, t, rfl⟩ := vals1 r
  have hs : (tx l).cps.size = l.length := by simp [tx]
  refine PySem.call_list_str (I.ok.hd hc) (tx l) t (fun h' tk acc' c' hk hS hacc => ?_) (hn := by rw [hs]; exact hl)
  obtain ⟨hsz, hget⟩ := hacc
  have hv : Vals (sgs l) acc'.toList := vals_of_get (show (sgs l).length = acc'.toList.length by rw [Array.length_toList (xs := acc'), hsz, hs]; simp [sgs]) fun i x u hx hu => by
    have hu' : acc'[i]? = some u := by rw [← Array.getElem?_toList]; exact hu
    obtain ⟨c, tk', hc', rfl⟩ := hget i u hu'
    have hc2 : l[i]? = some c := by
      have : (tx l).cps[i]? = l[i]? := by simp [tx]
      rw [← this]; exact hc'
    have : x = V.str (tx [c]) := by
      unfold sgs at hx
      rw [List.getElem?_map, hc2] at hx
      exact (Option.some.inj hx).symm
    subst this
    exact ⟨tk', rfl⟩
  exact ⟨.ref s.heap.objs.size, _, I.laid (t' := tk) hk (Nat.le_refl _) (show ObjOk X.prog X.w _ h' _ (.lst (sgs l)) from ⟨by simpa [sgs] using hl, acc'.toList, c', hv, by simpa using hS⟩), rfl, q _ (I.hok.fresh (Nat.le_refl _))⟩
def reps (n : Nat) (l : List Nat) : List Nat := (List.replicate n l).flatten
theorem reps_len (n : Nat) (l : List Nat) : (reps n l).length = n * l.length := by
  unfold reps
  induction n with
  | zero => simp
  | succ n ih =>
    rw [List.replicate_succ, List.flatten_cons, List.length_append, ih, Nat.add_mul, Nat.one_mul, Nat.add_comm]
theorem foldl_app (l : List Nat) : ∀ (n : Nat) (a : Array Nat), ((List.replicate n l.toArray).foldl (· ++ ·) a).toList = a.toList ++ (List.replicate n l).flatten
  | 0, a => by simp
  | n + 1, a => by
    rw [List.replicate_succ, List.foldl_cons, foldl_app l n, List.replicate_succ, List.flatten_cons]
    simp
theorem txt_mul (l : List Nat) (n : Int) : Txt.mul (tx l) n = tx (reps n.toNat l) := by
  unfold Txt.mul
  by_cases h : n < 1
  · rw [if_pos h]
    have : n.toNat = 0 := by omega
    rw [this]
    rfl
  · rw [if_neg h]
    by_cases h1 : (n == 1 || (tx l).length == 0) = true
    · rw [if_pos h1]
      rw [Bool.or_eq_true] at h1
      rcases h1 with h1 | h1
      · have : n = 1 := by simpa using h1
        subst this
        simp [reps]
      · have : l = [] := by simpa [tx, Str.length] using h1
        subst this
        simp [reps]
    · rw [if_neg h1]
      have e := foldl_app l n.toNat #[]
      have e2 : (List.replicate n.toNat (tx l).cps) = List.replicate n.toNat l.toArray := rfl
      rw [e2]
      generalize hg : List.foldl (fun x1 x2 => x1 ++ x2) #[] (List.replicate n.toNat l.toArray) = z at *
      unfold tx reps
      congr 1
      apply Array.ext'
      rw [e]
      simp
theorem op_mul_str : OpR X (binaryOp .Mult) (fun x y H Q => ∃ (l : List Nat) (n : Int), x = .str (tx l) ∧ y = .int n ∧ -100000 ≤ n ∧ n ≤ 100000 ∧ l.length * n.toNat ≤ 100000 ∧ Q (.str (tx (reps n.toNat l))) H) := by
  intro pins s σ H x y v u Q I rx ry h
  obtain ⟨l, n, rfl, rfl, hn0, hn, hl, q⟩ := h
  obtain ⟨t, rfl⟩ := rx
  obtain ⟨t', rfl⟩ := ry
  have hk : (tx l).length = l.length := tx_len l
  refine SB.mul (n := n) ⟨?_, fun h1 _ => ?_, fun h1 _ => ?_⟩ (fun t2 k => ⟨.str (tx (reps n.toNat l)), H, I.tok _, ⟨t2, by rw [txt_mul]⟩, q⟩)
  · simp only [Bool.or_eq_false_iff, decide_eq_false_iff_not]
    constructor <;> omega
  · rw [hk]
    have h2 : (l.length : Int) ≤ 100000 := by
      have : l.length * 1 ≤ l.length * n.toNat := Nat.mul_le_mul_left _ (by omega)
      omega
    have h3 : (100000 : Int) ≤ (2 ^ 63 - 1) / n := by
      refine (Int.le_ediv_iff_mul_le (by omega)).mpr ?_
      omega
    omega
  · rw [hk]
    unfold Builtin.Str.tooLong
    have : (100000 : Nat) ≤ sizeLine := by decide
    simp only [decide_eq_false_iff_not]
    omega

/-! ### rules for texts as lists of sgs -/
theorem pe_strX {x : Str} {j : Nat} {pos : Pos} (l : List Nat) (h : x = tx l) : PE X (.Constant (.str x) j pos) (tC (.str (tx l))) := by
  subst h
  exact pe_str
def rAddX : R2 := fun x y H Q => ∃ a b, x = .str (tx a) ∧ y = .str (tx b) ∧ a.length + b.length ≤ sizeLine ∧ Q (.str (tx (a ++ b))) H
theorem op_addX : OpR X (binaryOp .Add) rAddX := by
  intro pins s σ H x y v u Q I rx ry h
  obtain ⟨a, b, rfl, rfl, hz, q⟩ := h
  exact op_add_str pins s σ H _ _ v u Q I rx ry ⟨_, _, rfl, rfl, by rw [tx_len, tx_len]; exact hz, by rw [tx_app]; exact q⟩
def rMulX : R2 := fun x y H Q => ∃ (l : List Nat) (n : Int), x = .str (tx l) ∧ y = .int n ∧ -100000 ≤ n ∧ n ≤ 100000 ∧ l.length * n.toNat ≤ 100000 ∧ Q (.str (tx (reps n.toNat l))) H
theorem op_mulT : OpR X (binaryOp .Mult) rMulX := op_mul_str
def rInX (neg : Bool) : R2 := fun x y H Q => ∃ (c : Nat) (z : List Nat), x = .str (tx [c]) ∧ y = .str (tx z) ∧ Q (.bl (if neg then !decide (c ∈ z) else decide (c ∈ z))) H
theorem op_inX : OpR X (compareOp .In) (rInX false) := by
  intro pins s σ H x y v u Q I rx ry h
  obtain ⟨c, z, rfl, rfl, q⟩ := h
  exact op_in_sign pins s σ H _ _ v u Q I rx ry ⟨c, tx z, rfl, rfl, by rw [tx_cps]; exact q⟩
theorem op_notInX : OpR X (compareOp .NotIn) (rInX true) := by
  intro pins s σ H x y v u Q I rx ry h
  obtain ⟨c, z, rfl, rfl, q⟩ := h
  exact op_notIn_sign pins s σ H _ _ v u Q I rx ry ⟨c, tx z, rfl, rfl, by rw [tx_cps]; exact q⟩
def rLtX : R2 := fun x y H Q => ∃ a b, x = .str (tx a) ∧ y = .str (tx b) ∧ Q (.bl (decide (a < b))) H
theorem op_ltX : OpR X (compareOp .Lt) rLtX := by
  intro pins s σ H x y v u Q I rx ry h
  obtain ⟨a, b, rfl, rfl, q⟩ := h
  exact op_lt_str pins s σ H _ _ v u Q I rx ry ⟨_, _, rfl, rfl, by rw [tx_cps, tx_cps]; exact q⟩
def rLeX : R2 := fun x y H Q => ∃ a b, x = .str (tx a) ∧ y = .str (tx b) ∧ Q (.bl (!decide (b < a))) H
theorem rLenX_aux (l : List Nat) : ((tx l).length : Int) = (l.length : Int) := by rw [tx_len]
def rLenX : List V → Hp → VK → Prop := fun xs H Q => ∃ l, xs = [.str (tx l)] ∧ l.length ≤ sizeLine ∧ Q (.int (l.length : Nat)) H
theorem call_lenX : CallR X (.builtin "len") rLenX := by
  intro pins s σ H xs us Q I r h
  obtain ⟨l, rfl, hz, q⟩ := h
  exact call_len_str pins s σ H _ us Q I r ⟨tx l, rfl, by rw [tx_len]; exact hz, by rw [tx_len]; exact q⟩
def rIxX : R2 := fun x y H Q => ∃ (l : List Nat) (i : Int) (c : Nat), x = .str (tx l) ∧ y = .int i ∧ l.length ≤ sizeLine ∧ atI l i = some c ∧ Q (.str (tx [c])) H
theorem ix_strX : IxR X rIxX := by
  intro value slice pins s σ H x y v u Q I rx ry h hs
  obtain ⟨l, i, c, rfl, rfl, hz, ha, q⟩ := h
  exact ix_str value slice pins s σ H _ _ v u Q I rx ry ⟨tx l, i, c, rfl, rfl, by rw [tx_len]; exact hz, by rw [tx_cps]; exact ha, q⟩ hs
def cutL (l : List Nat) (lo hi : Option Int) : List Nat := (l.drop (HT.sIx l.length 0 lo)).take (HT.sIx l.length l.length hi - HT.sIx l.length 0 lo)
theorem cutS_tx (l : List Nat) (lo hi : Option Int) : cutS (tx l) lo hi = tx (cutL l lo hi) := by
  unfold cutS cutL
  rw [tx_len, tx_cps]
  rfl
def rSlX : V → Option Int → Option Int → Hp → VK → Prop := fun x lo hi H Q => ∃ l, x = .str (tx l) ∧ l.length ≤ sizeLine ∧ Q (.str (tx (cutL l lo hi))) H
theorem sl_strX : SlR X rSlX := by
  intro pins s σ H x v vl vu l u a Q I rx hsl pl pu h
  obtain ⟨z, rfl, hz, q⟩ := h
  exact sl_str pins s σ H _ v vl vu l u a Q I rx hsl pl pu ⟨tx z, rfl, by rw [tx_len]; exact hz, by rw [cutS_tx]; exact q⟩
/-- letters.index(c), each letter once -/
theorem occ_nodup {z : List Nat} (nd : z.Nodup) {i : Nat} {c : Nat} (h : z[i]? = some c) : ∃ rest, Builtin.Str.occurrences (tx z) (tx [c]) 0 (tx z).length 1 = i :: rest := by
  have hc : c ∈ z := List.mem_of_getElem? h
  have hf := PySem.StrLaws.found_one (tx z) c
  rw [tx_cps, decide_eq_true hc] at hf
  have hsp := PySem.StrLaws.occ_spec (tx z) (tx [c]) 0 (tx z).length 1
  have e1 : (⟨#[c]⟩ : Str) = tx [c] := rfl
  rw [e1] at hf
  cases ho : Builtin.Str.occurrences (tx z) (tx [c]) 0 (tx z).length 1 with
  | nil => rw [ho] at hf; simp at hf
  | cons j rest =>
    obtain ⟨hj, hs⟩ := hsp j (by rw [ho]; exact List.mem_cons_self)
    rw [tx_len, tx_len] at hj
    have hj2 : z[j]? = some c := by
      unfold Builtin.Str.subAt at hs
      have h3 : (tx z).cps.extract j (j + (tx [c]).length) = (tx [c]).cps := by simpa using hs
      have h4 := congrArg Array.toList h3
      rw [tx_len] at h4
      simp only [tx, List.length_cons, List.length_nil, Nat.zero_add, Array.toList_extract, List.extract_eq_take_drop] at h4
      have h5 : (List.take 1 (List.drop j z))[0]? = some c := by
        have : j + 1 - j = 1 := by omega
        rw [this] at h4
        rw [h4]; rfl
      simpa using h5
    have : j = i := by
      have l1 : j < z.length := (List.getElem?_eq_some_iff.mp hj2).1
      have l2 : i < z.length := (List.getElem?_eq_some_iff.mp h).1
      exact (List.getElem_inj (h₀ := l1) (h₁ := l2) nd).mp (by
        rw [List.getElem?_eq_getElem l1] at hj2
        rw [List.getElem?_eq_getElem l2] at h
        exact (Option.some.inj hj2).trans (Option.some.inj h).symm)
    subst this
    exact ⟨rest, rfl⟩
def rIndexX : V → List V → Hp → VK → Prop := fun x xs H Q => ∃ (z : List Nat) (c i : Nat), x = .str (tx z) ∧ xs = [.str (tx [c])] ∧ z.Nodup ∧ z[i]? = some c ∧ Q (.int (i : Nat)) H
theorem mt_indexT : MtR X "str.index" rIndexX := by
  intro pins s σ H x xs v us Q I rx rs h
  obtain ⟨z, c, i, rfl, rfl, nd, hi, q⟩ := h
  obtain ⟨rest, ho⟩ := occ_nodup nd hi
  exact mt_sindex pins s σ H _ _ v us Q I rx rs ⟨_, _, i, rest, rfl, rfl, ho, q⟩
theorem join_tx : ∀ ls : List (List Nat), Str.join ("" : Str) (ls.map tx) = tx ls.flatten
  | [] => rfl
  | [a] => by simp [Str.join]
  | a :: b :: r => by
    have h := join_tx (b :: r)
    rw [List.map_cons] at h
    have e : Str.join ("" : Str) (tx a :: tx b :: r.map tx) = tx a ++ "" ++ Str.join ("" : Str) (tx b :: r.map tx) := rfl
    rw [List.map_cons, List.map_cons, e, h, List.flatten_cons (l := a)]
    have e0 : ("" : Str) = tx [] := rfl
    rw [e0, tx_app, tx_app, List.append_nil]
def rJoinX (K : PySem.W.Frag) : V → List V → Hp → VK → Prop := fun x xs H Q => ∃ (p : Addr) (ls : List (List Nat)), x = .str (tx []) ∧ xs = [.ref p] ∧ SqL K H p (ls.map fun l => V.str (tx l)) ∧ (ls.map List.length).sum ≤ 16777216 ∧ Q (.str (tx ls.flatten)) H
theorem mt_joinX : MtR X "str.join" (rJoinX X.K) := by
  intro pins s σ H x xs v us Q I rx rs h
  obtain ⟨p, ls, rfl, rfl, hp, hz, q⟩ := h
  refine mt_join pins s σ H _ _ v us Q I rx rs ⟨tx [], p, ls.map tx, rfl, rfl, .inl ?_, ?_, ?_⟩
  · rw [List.map_map]; exact hp
  · have : (List.map (fun x => x.length) (List.map tx ls)) = ls.map List.length := by
      rw [List.map_map]; exact List.map_congr_left fun l _ => tx_len l
    rw [this]
    have e0 : (tx []).length = 0 := rfl
    rw [e0]; omega
  · have : Txt.join (tx []) (ls.map tx) = tx ls.flatten := (PySem.StrLaws.glued_eq_join _ _).trans (join_tx ls)
    rw [this]; exact q
end
end Un

namespace Un
open PySem PySem.Spec PyProof.Rows L2
section
variable {K : PySem.W.Frag} {σ : L2.St} {H : Hp} {Q : VK} {D : Ends} {i j : Nat} {v x y : V} {ta tb te : TE} {tr : TA} {t u c : TT} {r : R2} {g : TG} {tu tw : TS} {A B R : Prop}
theorem rd_var (h : σ[i]? = some (some v)) (q : Q v H) : tVar i σ H Q := ⟨v, h, q⟩
theorem rd_c (q : Q v H) : tC v σ H Q := q
theorem rd_op (h : ta σ H fun x H1 => tb σ H1 fun y H2 => r x y H2 Q) : tOp r ta tb σ H Q := h
theorem rd_un {r : V → Hp → VK → Prop} (h : ta σ H fun x H1 => r x H1 Q) : tUn r ta σ H Q := h
theorem rd_I0 {g : Int → Int → V} {a b : Int} (q : Q (g a b) H) : rI0 g (.int a) (.int b) H Q := ⟨a, b, rfl, rfl, q⟩
theorem rd_I {C : Int → Int → Prop} {g : Int → Int → V} {a b : Int} (hc : C a b) (q : Q (g a b) H) : rI C g (.int a) (.int b) H Q := ⟨a, b, rfl, rfl, hc, q⟩
theorem rd_U {g : Int → V} {a : Int} (q : Q (g a) H) : rU g (.int a) H Q := ⟨a, rfl, q⟩
theorem rd_eq (hs : scal x y = true) (q : Q (.bl (decide (x = y))) H) : rEq x y H Q := ⟨hs, q⟩
theorem rd_ne (hs : scal x y = true) (q : Q (.bl (!decide (x = y))) H) : rNe x y H Q := ⟨hs, q⟩
theorem rd_isN (q : Q (.bl (decide (x = .non))) H) : (fun x y H Q => y = V.non ∧ Q (.bl (decide (x = .non))) H : R2) x .non H Q := ⟨rfl, q⟩
theorem rd_test {Q : Bool → Hp → Prop} (h : te σ H fun x H' => ∃ k, x = .bl k ∧ Q k H') : tTest te σ H Q := h
theorem rd_B {Q : Bool → Hp → Prop} (h : te σ H fun x H' => ∃ k, x = .bl k ∧ Q k H') : tB te σ H Q := h
theorem rd_bl {b : Bool} {P : Bool → Prop} (q : P b) : ∃ k, V.bl b = V.bl k ∧ P k := ⟨b, rfl, q⟩
theorem rd_and {Q : Bool → Hp → Prop} (h : t σ H fun c H1 => if c = true then u σ H1 Q else Q false H1) : tAnd t u σ H Q := h
theorem rd_or {Q : Bool → Hp → Prop} (h : t σ H fun c H1 => if c = true then Q true H1 else u σ H1 Q) : tOr t u σ H Q := h
theorem rd_not {Q : Bool → Hp → Prop} (h : t σ H fun c H1 => Q (!c) H1) : tNot t σ H Q := h
theorem rd_andV (h : ta σ H fun x H1 => ∃ c, x = .bl c ∧ if c = true then tb σ H1 Q else Q (.bl false) H1) : tAndV ta tb σ H Q := h
theorem rd_orV (h : ta σ H fun x H1 => ∃ c, x = .bl c ∧ if c = true then Q (.bl true) H1 else tb σ H1 Q) : tOrV ta tb σ H Q := h
theorem rd_notV (h : ta σ H fun x H1 => ∃ c, x = .bl c ∧ Q (.bl (!c)) H1) : tNotV ta σ H Q := h
theorem rd_if (h : t σ H fun c H1 => if c = true then ta σ H1 Q else tb σ H1 Q) : tIf t ta tb σ H Q := h
theorem rd_ite {b : Bool} (h1 : b = true → A) (h2 : b = false → B) : if b = true then A else B := by
  cases b with
  | true => exact h1 rfl
  | false => exact h2 rfl
theorem rd_seq (h : tu { D with nx := tw D } σ H) : tSeq tu tw D σ H := h
theorem rd_asg (h : te σ H fun x H1 => g x σ H1 D.nx) : tAsg te g D σ H := h
theorem rd_gname {Q : L2.St → Hp → Prop} (h : Q (σ.set i (some v)) H) : gName i v σ H Q := h
theorem rd_gsub {to ti : TE} {t : TSet} {Q : L2.St → Hp → Prop} (h : to σ H fun o H1 => ti σ H1 fun i H2 => t o i v H2 fun H3 => Q σ H3) : gSub to ti t v σ H Q := h
theorem rd_gtup {n : Nat} {tt : TGs} {a : Addr} {xs : List V} {Q : L2.St → Hp → Prop} (h : SqT K H a xs) (hn : xs.length = n) (q : tt xs σ H Q) : gTup K n tt (.ref a) σ H Q := ⟨a, xs, rfl, h, hn, q⟩
theorem rd_gcons {t : TG} {u : TGs} {v : V} {vs : List V} {Q : L2.St → Hp → Prop} (h : t v σ H fun σ' H' => u vs σ' H' Q) : gCons t u (v :: vs) σ H Q := ⟨v, vs, rfl, h⟩
theorem rd_gnil {Q : L2.St → Hp → Prop} (h : Q σ H) : gNil [] σ H Q := ⟨rfl, h⟩
theorem rd_ifS (h : c σ H fun b H1 => if b = true then tu D σ H1 else tw D σ H1) : tIfS c tu tw D σ H := h
theorem rd_ret (h : te σ H D.rt) : tRet te D σ H := h
theorem rd_retN (h : D.rt .non H) : tRetN D σ H := h
theorem rd_drop (h : te σ H fun _ H1 => D.nx σ H1) : tDrop te D σ H := h
theorem rd_next (h : D.nx σ H) : tNext D σ H := h
theorem rd_break (h : D.bk σ H) : tBreak D σ H := h
theorem rd_cont (h : D.ct σ H) : tCont D σ H := h
theorem rd_call {sp : Sp} {dvs : List V} {E : XK} (h : tr σ H fun vs H1 => sp (vs ++ dvs) H1 Q E) : tCall sp dvs E tr σ H Q := h
theorem rd_cons {Q : List V → Hp → Prop} (h : te σ H fun x H1 => tr σ H1 fun xs H2 => Q (x :: xs) H2) : tCons te tr σ H Q := h
theorem rd_nil {Q : List V → Hp → Prop} (h : Q [] H) : tNil σ H Q := h
theorem rd_cb {r : List V → Hp → VK → Prop} (h : tr σ H fun vs H1 => r vs H1 Q) : tCB r tr σ H Q := h
theorem rd_bm {T : String} {r : V → List V → Hp → VK → Prop} (h : te σ H fun x H1 => tyV K T x H1 ∧ tr σ H1 fun xs H2 => r x xs H2 Q) : tBM K T r te tr σ H Q := h
theorem rd_bm0 {T : String} {r : V → List V → Hp → VK → Prop} (h : te σ H fun x H1 => tyV K T x H1 ∧ r x [] H1 Q) : tBM0 K T r te σ H Q := h
theorem rd_tyS {z : Str} (q : R) : tyV K "str" (.str z) H ∧ R := ⟨rfl, q⟩
theorem rd_tyL {p : Addr} {xs : List V} (h : SqL K H p xs) (q : R) : tyV K "list" (.ref p) H ∧ R := ⟨.inl ⟨rfl, _, h⟩, q⟩
theorem rd_lst (h : tr σ H fun xs H1 => xs.length ≤ sizeLine ∧ ∀ p, H1 p = none → Q (.ref p) (upd H1 p (.lst xs))) : tLst tr σ H Q := h
theorem rd_tup (h : tr σ H fun xs H1 => xs.length ≤ sizeLine ∧ ∀ p, H1 p = none → Q (.ref p) (upd H1 p (.tup xs))) : tTup tr σ H Q := h
theorem rd_sl {r : V → Option Int → Option Int → Hp → VK → Prop} {tl th : TO} (h : te σ H fun x H1 => tl σ H1 fun l H2 => th σ H2 fun u H3 => r x l u H3 Q) : tSl r te tl th σ H Q := h
theorem rd_part {Q : Option Int → Hp → Prop} (h : te σ H fun x H1 => ∃ i, x = .int i ∧ Q (some i) H1) : tPart te σ H Q := h
theorem rd_some {a : Int} {P : Int → Prop} (q : P a) : ∃ i, V.int a = .int i ∧ P i := ⟨a, rfl, q⟩
theorem rd_strE {z : Str} {P : Str → Prop} (q : P z) : ∃ y, V.str z = .str y ∧ P y := ⟨z, rfl, q⟩
theorem rd_one {a : V} {P : V → Prop} (q : P a) : ∃ x, [a] = [x] ∧ P x := ⟨a, rfl, q⟩
theorem rd_nopart {Q : Option Int → Hp → Prop} (h : Q none H) : tNoPart σ H Q := h
theorem rd_par {ta : TA} (h : ta σ H fun vs H1 => ∃ v w, vs = [v, w] ∧ D.nx ((σ.set i (some v)).set j (some w)) H1) : tPar i j ta D σ H := h
theorem rd_two {P : V → V → Prop} {a b : V} (q : P a b) : ∃ v w, [a, b] = [v, w] ∧ P v w := ⟨a, b, rfl, q⟩
/-- named rules -/
theorem rd_addX {a b : List Nat} (hz : a.length + b.length ≤ sizeLine) (q : Q (.str (tx (a ++ b))) H) : rAddX (.str (tx a)) (.str (tx b)) H Q := ⟨a, b, rfl, rfl, hz, q⟩
theorem rd_mulX {l : List Nat} {n : Int} (h1 : -100000 ≤ n) (h2 : n ≤ 100000) (h3 : l.length * n.toNat ≤ 100000) (q : Q (.str (tx (reps n.toNat l))) H) : rMulX (.str (tx l)) (.int n) H Q := ⟨l, n, rfl, rfl, h1, h2, h3, q⟩
theorem rd_inX {neg : Bool} {n : Nat} {z : List Nat} (q : Q (.bl (if neg then !decide (n ∈ z) else decide (n ∈ z))) H) : rInX neg (.str (tx [n])) (.str (tx z)) H Q := ⟨n, z, rfl, rfl, q⟩
theorem rd_ltX {a b : List Nat} (q : Q (.bl (decide (a < b))) H) : rLtX (.str (tx a)) (.str (tx b)) H Q := ⟨a, b, rfl, rfl, q⟩
theorem rd_lenX {l : List Nat} (hz : l.length ≤ sizeLine) (q : Q (.int (l.length : Nat)) H) : rLenX [.str (tx l)] H Q := ⟨l, rfl, hz, q⟩
theorem rd_ixX {l : List Nat} {a : Int} {n : Nat} (hz : l.length ≤ sizeLine) (h : atI l a = some n) (q : Q (.str (tx [n])) H) : rIxX (.str (tx l)) (.int a) H Q := ⟨l, a, n, rfl, rfl, hz, h, q⟩
theorem rd_slX {l : List Nat} {lo hi : Option Int} (hz : l.length ≤ sizeLine) (q : Q (.str (tx (cutL l lo hi))) H) : rSlX (.str (tx l)) lo hi H Q := ⟨l, rfl, hz, q⟩
theorem rd_indexX {z : List Nat} {n k : Nat} (nd : z.Nodup) (h : z[k]? = some n) (q : Q (.int (k : Nat)) H) : rIndexX (.str (tx z)) [.str (tx [n])] H Q := ⟨z, n, k, rfl, rfl, nd, h, q⟩
theorem rd_repr (hx : scalR x) (q : Q (.str (reprS x)) H) : rRepr [x] H Q := ⟨x, rfl, hx, q⟩
theorem rd_ixL {p : Addr} {xs : List V} {a : Int} (h : SqL K H p xs) (ha : atI xs a = some v) (q : Q v H) : rIxL K (.ref p) (.int a) H Q := ⟨p, xs, a, v, rfl, rfl, h, ha, q⟩
theorem rd_ixT {p : Addr} {xs : List V} {a : Int} (h : SqT K H p xs) (ha : atI xs a = some v) (q : Q v H) : rIxT K (.ref p) (.int a) H Q := ⟨p, xs, a, v, rfl, rfl, h, ha, q⟩
theorem rd_setL {p : Addr} {xs : List V} {a : Int} {n : Nat} {Q : Hp → Prop} (h : H p = some (.lst xs)) (ha : ixN xs.length a = some n) (q : Q (upd H p (.lst (xs.set n v)))) : rSetL (.ref p) (.int a) v H Q := ⟨p, xs, a, n, rfl, rfl, h, ha, q⟩
theorem rd_app {p : Addr} {xs : List V} (h : H p = some (.lst xs)) (hz : xs.length < sizeLine) (q : Q .non (upd H p (.lst (xs ++ [v])))) : rAppend (.ref p) [v] H Q := ⟨p, xs, v, rfl, rfl, h, hz, q⟩
theorem rd_pop {p : Addr} {xs : List V} (h : H p = some (.lst (xs ++ [v]))) (q : Q v (upd H p (.lst xs))) : rPop (.ref p) [] H Q := ⟨p, xs ++ [v], v, rfl, rfl, h, by simp, by rw [List.dropLast_concat]; exact q⟩
end
/-! ### heaps: what stays when two objects D and L change -/
def Keep (D L : Addr) (H H' : Hp) : Prop := ∀ a o, H a = some o → a ≠ D → a ≠ L → H' a = some o
theorem Keep.refl {D L : Addr} (H : Hp) : Keep D L H H := fun _ _ h _ _ => h
theorem Keep.trans {D L : Addr} {H H1 H2 : Hp} (a : Keep D L H H1) (b : Keep D L H1 H2) : Keep D L H H2 := fun c o h h1 h2 => b c o (a c o h h1 h2) h1 h2
theorem Keep.new {D L p : Addr} {H : Hp} {o : HO} (h : H p = none) : Keep D L H (upd H p o) := fun a u e _ _ => by
  rw [upd_ne (ne_of_none e h)]
  exact e
theorem Keep.own {D L p : Addr} {H : Hp} {o : HO} (h : p = D ∨ p = L) : Keep D L H (upd H p o) := fun a u e h1 h2 => by
  rw [upd_ne (by rcases h with h | h <;> (rw [h]; assumption))]
  exact e
theorem Keep.of_same {D L : Addr} {H H' : Hp} (h : Same H H') : Keep D L H H' := fun a o e _ _ => h a o e
theorem same_upd {H : Hp} {p : Addr} {o : HO} (h : H p = none) : Same H (upd H p o) := fun b x e => by
  rw [upd_ne (ne_of_none e h)]
  exact e
theorem mulW_of {i j : Int} (h1 : i.natAbs < 2 ^ 250) (h2 : j.natAbs < 2 ^ 250) : CMulW i j := wide_mul h1 h2 (by decide) (by decide) (by decide)

/-! ### flat lists as data -/
theorem dpAll_ints {K : PySem.W.Frag} {H : Hp} : ∀ ns : List Int, DpAll K H (ns.map V.int) (ns.map PyData.int)
  | [] => .nil
  | n :: r => .cons (.int n) (dpAll_ints r)
theorem canLay_ints : ∀ ns : List Int, PyData.canLayAll0 (ns.map PyData.int) = true
  | [] => by simp [PyData.canLayAll0]
  | n :: r => by
    have h := canLay_ints r
    simp [PyData.canLayAll0, PyData.canLay0, h]
theorem depth_ints : ∀ ns : List Int, PyData.depthAll (ns.map PyData.int) = 0
  | [] => by simp [PyData.depthAll]
  | n :: r => by
    have h := depth_ints r
    simp [PyData.depthAll, PyData.depth, h]
theorem shaped_ints (ns : List Int) : SeqAt.shaped (.list (ns.map PyData.int)) = true := by
  unfold SeqAt.shaped
  simp [PyData.canLay0, canLay_ints, PyData.depth, depth_ints]
theorem eqv_nil_list (ds : List PyData) : PyData.eqv (.list ds) (.list []) = ds.isEmpty := by
  cases ds <;> simp [PyData.eqv, PyData.eqvAll]
section
variable {K : PySem.W.Frag} {H : Hp} {Q : VK}
theorem rd_neNil {p e : Addr} {ns : List Int} (h1 : SqL K H p (ns.map V.int)) (h2 : SqL K H e []) (q : Q (.bl (!ns.isEmpty)) H) : rNeD K (.ref p) (.ref e) H Q :=
  ⟨.list (ns.map PyData.int), .list [], .lst h1 (dpAll_ints ns), .lst h2 .nil, shaped_ints ns, shaped_ints [], by
    rw [eqv_nil_list]
    cases ns <;> exact q⟩
theorem rd_int1 {i : Int} {x : List Int} (q : Q (.int i) H) : (∃ j, [V.int i] = [V.int j] ∧ Q (.int j) H) ∨ ∃ k, [V.int i] = [V.bl k] ∧ Q (.int (if k = true then 1 else 0)) H := .inl ⟨i, rfl, q⟩
end
theorem atI_last1 {xs : List V} {v : V} (h : xs.getLast? = some v) : atI xs (-1) = some v := by
  obtain ⟨ys, rfl⟩ : ∃ ys, xs = ys ++ [v] := by
    cases hx : xs with
    | nil => rw [hx] at h; simp at h
    | cons a r =>
      have := List.dropLast_concat_getLast (l := xs) (by rw [hx]; simp)
      rw [List.getLast?_eq_getLast (by rw [hx]; simp)] at h
      exact ⟨xs.dropLast, by rw [← hx, ← Option.some.inj h, this]⟩
  exact atI_last _ _

/-! ### built-ins under names -/
def rIntI : List V → Hp → VK → Prop := fun xs H Q => ∃ i, xs = [.int i] ∧ Q (.int i) H
def rIntB : List V → Hp → VK → Prop := fun xs H Q => ∃ b : Bool, xs = [.bl b] ∧ Q (.int (if b then 1 else 0)) H
def rStrS : List V → Hp → VK → Prop := fun xs H Q => ∃ a, xs = [.str a] ∧ Q (.str a) H
def rListX : List V → Hp → VK → Prop := fun xs H Q => ∃ l : List Nat, xs = [.str (tx l)] ∧ l.length ≤ sizeLine ∧ ∀ p, H p = none → Q (.ref p) (upd H p (.lst (sgs l)))
def rDivmod : List V → Hp → VK → Prop := fun xs H Q => ∃ i j, xs = [.int i, .int j] ∧ 0 < j ∧ j.natAbs.log2 < 9000 ∧ ∀ p, H p = none → Q (.ref p) (upd H p (.tup [.int (i / j), .int (i % j)]))
def rLenQ (K : PySem.W.Frag) : List V → Hp → VK → Prop := fun xs H Q => ∃ p ys, xs = [.ref p] ∧ (SqL K H p ys ∨ SqT K H p ys) ∧ Q (.int (ys.length : Nat)) H
def rSplitW (K : PySem.W.Frag) : List V → Hp → VK → Prop := fun xs H Q => ∃ p ys, xs = [.ref p] ∧ (SqL K H p ys ∨ SqT K H p ys) ∧ ∀ l, H l = none → Q (.ref l) (upd H l (.lst ys))
section
variable {X : Cx}
theorem call_intI : CallR X (.type "int") rIntI := fun pins s σ H xs us Q I r h => call_int1 pins s σ H xs us Q I r (.inl h)
theorem call_intB : CallR X (.type "int") rIntB := fun pins s σ H xs us Q I r h => call_int1 pins s σ H xs us Q I r (.inr h)
theorem call_strS : CallR X (.type "str") rStrS := SkE.call_str_str
theorem call_listX (hc : X.calm = true) : CallR X (.type "list") rListX := call_list_strR hc
theorem call_lenQ : CallR X (.builtin "len") (rLenQ X.K) := call_len_seq
theorem call_listQ : CallR X (.type "list") (rSplitW X.K) := call_list_of
end
section
variable {K : PySem.W.Frag} {H : Hp} {Q : VK}
theorem rd_intI {i : Int} (q : Q (.int i) H) : rIntI [.int i] H Q := ⟨i, rfl, q⟩
theorem rd_intB {b : Bool} (q : Q (.int (if b then 1 else 0)) H) : rIntB [.bl b] H Q := ⟨b, rfl, q⟩
theorem rd_strS {a : Str} (q : Q (.str a) H) : rStrS [.str a] H Q := ⟨a, rfl, q⟩
theorem rd_listX {l : List Nat} (hl : l.length ≤ sizeLine) (q : ∀ p, H p = none → Q (.ref p) (upd H p (.lst (sgs l)))) : rListX [.str (tx l)] H Q := ⟨l, rfl, hl, q⟩
theorem rd_lenL {p : Addr} {ys : List V} (h : SqL K H p ys) (q : Q (.int (ys.length : Nat)) H) : rLenQ K [.ref p] H Q := ⟨p, ys, rfl, .inl h, q⟩
theorem rd_lenT {p : Addr} {ys : List V} (h : SqT K H p ys) (q : Q (.int (ys.length : Nat)) H) : rLenQ K [.ref p] H Q := ⟨p, ys, rfl, .inr h, q⟩
theorem rd_all {p : Addr} {bs : List Bool} (h : SqL K H p (bs.map V.bl)) (q : Q (.bl (bs.all id)) H) : rAll K [.ref p] H Q := ⟨p, bs, rfl, h, q⟩
theorem rd_sortS {p : Addr} {zs : List Str} (h : SqL K H p (zs.map V.str)) (hl : zs.length < 64) (q : ∀ (ys : List Str) (p : Addr), ys.Perm zs → sortedS ys = true → H p = none → Q (.ref p) (upd H p (.lst (ys.map V.str)))) : rSortedS K [.ref p] H Q := ⟨p, zs, rfl, h, hl, q⟩
theorem rd_popAt {p : Addr} {xs : List V} {i : Nat} {y : V} (h : H p = some (.lst xs)) (hi : i < 2 ^ 62) (hy : xs[i]? = some y) (q : Q y (upd H p (.lst (xs.eraseIdx i)))) : rPopAt (.ref p) [.int (i : Nat)] H Q := by
  have hl : i < xs.length := (List.getElem?_eq_some_iff.mp hy).1
  refine ⟨p, xs, (i : Int), i, y, rfl, rfl, h, by omega, by omega, ?_, hy, q⟩
  unfold seqIndex?
  simp
  omega
theorem rd_joinX {p : Addr} {ls : List (List Nat)} (h : SqL K H p (ls.map fun l => V.str (tx l))) (hz : (ls.map List.length).sum ≤ 16777216) (q : Q (.str (tx ls.flatten)) H) : rJoinX K (.str (tx [])) [.ref p] H Q := ⟨p, ls, rfl, rfl, h, hz, q⟩
theorem rd_slL {p : Addr} {xs : List V} {lo hi : Option Int} (h : SqL K H p xs) (q : ∀ n, H n = none → Q (.ref n) (upd H n (.lst (cutV xs lo hi)))) : rSlL K (.ref p) lo hi H Q := ⟨p, xs, rfl, h, q⟩
theorem rd_revL {σ : L2.St} {te : TE} (h : te σ H fun x H1 => ∃ a xs, x = .ref a ∧ SqL K H1 a xs ∧ ∀ p, H1 p = none → Q (.ref p) (upd H1 p (.lst xs.reverse))) : tRevL K te σ H Q := h
end

/-! ### comprehensions and loops -/
theorem same_mut {H H' : Hp} {p : Addr} {o : HO} (e : Same H H') (h : H p = none) : Same H (upd H' p o) := fun a u ha => by
  rw [upd_ne (ne_of_none ha h)]
  exact e a u ha
theorem Keep.mut {D L p : Addr} {H H' : Hp} {o : HO} (e : Keep D L H H') (h : H p = none) : Keep D L H (upd H' p o) := fun a u ha h1 h2 => by
  rw [upd_ne (ne_of_none ha h)]
  exact e a u ha h1 h2
section
variable {K : PySem.W.Frag} {σ : L2.St} {H : Hp} {Q : VK} {D : Ends} {tl te : TE} {tt : TT} {g : TG} {tb : TS} {wi : TI} {vs : List Nat} {R : It → Hp → Prop}
theorem rd_lc (h : wi σ H fun J H1 => ∀ D, H1 D = none → ∃ W : Nat → Nat → Hp → Prop, (∃ m, W 0 m (upd H1 D (.lst []))) ∧ ∀ i m H, W i m H →
  (J.stop i H ∧ Q (.ref D) H) ∨ (J.go i H ∧ ∃ Nx : Hp → Prop, (∀ H', Nx H' → ∃ m', m' < m ∧ W (i + 1) m' H') ∧ ∀ x H', J.yld i H x H' → g x (wipe σ vs) H' fun σ2 H2 => wipe σ2 vs = wipe σ vs ∧ tt σ2 H2 fun b H3 =>
    if b = true then te σ2 H3 fun y H4 => ∃ acc, H4 D = some (.lst acc) ∧ acc.length < sizeLine ∧ Nx (upd H4 D (.lst (acc ++ [y]))) else Nx H3)) : tLc wi g tt te vs σ H Q := h
theorem rd_iList (h : tl σ H fun x H1 => ∃ a, x = .ref a ∧ (∃ xs, SqL K H1 a xs) ∧ R (Itl K a) H1) : iList K tl σ H R := h
theorem rd_iStr (h : tl σ H fun v H1 => ∃ x, v = .str x ∧ R (Its x) H1) : iStr tl σ H R := h
theorem rd_iTup (h : tl σ H fun x H1 => ∃ a, x = .ref a ∧ (∃ xs, SqT K H1 a xs) ∧ R (Itt K a) H1) : iTup K tl σ H R := h
theorem rd_for (h : wi σ H fun J H1 => ∃ W : Nat → Nat → L2.St → Hp → Prop, (∃ m, W 0 m σ H1) ∧ ∀ i m σ H, W i m σ H →
  (J.stop i H ∧ D.nx σ H) ∨ (J.go i H ∧ ∃ N : L2.St → Hp → Prop, (∀ σ' H', N σ' H' → ∃ m', m' < m ∧ W (i + 1) m' σ' H') ∧ ∀ x H', J.yld i H x H' → g x σ H' fun σ2 H2 => tb { D with nx := N, ct := N, bk := D.nx } σ2 H2)) : tFor wi g tb D σ H := h
theorem rd_rng1 {ta : TA} (h : ta σ H fun vs H1 => ∃ j : Int, vs = [.int j] ∧ -(2 ^ 62) ≤ j ∧ j < 2 ^ 62 ∧ R (Itr 0 j.toNat) H1) : iRng1 ta σ H R := h
theorem rd_rng2 {ta : TA} (h : ta σ H fun vs H1 => ∃ i j : Int, vs = [.int i, .int j] ∧ (-(2 ^ 62) ≤ i ∧ i < 2 ^ 62 ∧ -(2 ^ 62) ≤ j ∧ j < 2 ^ 62) ∧ R (Itr i (j - i).toNat) H1) : iRng2 ta σ H R := h
theorem rd_yes {Q : Bool → Hp → Prop} (h : Q true H) : tYes σ H Q := h
theorem rd_cut {t u : TS} (Mid : L2.St → Hp → Prop) (h : t { D with nx := Mid } σ H) (k : ∀ σ' H', Mid σ' H' → u D σ' H') : Evl.tCut t u D σ H := ⟨Mid, h, k⟩
end
theorem cutV_ints (ns : List Int) (lo hi : Option Int) : ∃ zs : List Int, cutV (ns.map V.int) lo hi = zs.map V.int ∧ zs.length ≤ ns.length := by
  refine ⟨(ns.drop (HT.sIx (ns.map V.int).length 0 lo)).take (HT.sIx (ns.map V.int).length (ns.map V.int).length hi - HT.sIx (ns.map V.int).length 0 lo), ?_, ?_⟩
  · unfold cutV
    rw [List.map_take, List.map_drop]
  · rw [List.length_take, List.length_drop]
    omega
theorem take_snoc {α β : Type} {xs : List α} {i : Nat} {x : α} (f : α → β) (h : xs[i]? = some x) : (xs.take (i + 1)).map f = (xs.take i).map f ++ [f x] := by
  rw [List.take_add_one, h, List.map_append]
  rfl
theorem get_map {α : Type} {xs : List α} {f : α → V} {i : Nat} {v : V} (h : (xs.map f)[i]? = some v) : ∃ x, xs[i]? = some x ∧ v = f x := by
  rw [List.getElem?_map] at h
  cases e : xs[i]? with
  | none => rw [e] at h; cases h
  | some x => rw [e] at h; exact ⟨x, rfl, (Option.some.inj h).symm⟩

/-! ### a sequence that is a list or a text -/
def rLenA (K : PySem.W.Frag) : List V → Hp → VK → Prop := fun xs H Q => rLenQ K xs H Q ∨ rLenX xs H Q
def rIxA (K : PySem.W.Frag) : R2 := fun x y H Q => rIxL K x y H Q ∨ rIxX x y H Q
theorem sgs_len (l : List Nat) : (sgs l).length = l.length := by simp [sgs]
section
variable {X : Cx}
theorem call_lenA : CallR X (.builtin "len") (rLenA X.K) := fun pins s σ H xs us Q I r h => h.elim (call_lenQ pins s σ H xs us Q I r) (call_lenX pins s σ H xs us Q I r)
theorem ix_any : IxR X (rIxA X.K) := ix_list.or ix_strX
end
section
variable {K : PySem.W.Frag} {H : Hp} {Q : VK} {v x : V} {ys : List V} {j : Nat}
theorem rd_lenA (h : (∃ a, v = .ref a ∧ SqL K H a ys) ∨ ∃ l, v = .str (tx l) ∧ ys = sgs l ∧ l.length ≤ sizeLine) (q : Q (.int (ys.length : Nat)) H) : rLenA K [v] H Q := by
  rcases h with ⟨a, rfl, h⟩ | ⟨l, rfl, rfl, h⟩
  · exact .inl ⟨a, ys, rfl, .inl h, q⟩
  · exact .inr ⟨l, rfl, h, by rw [sgs_len] at q; exact q⟩
theorem rd_ixA (h : (∃ a, v = .ref a ∧ SqL K H a ys) ∨ ∃ l, v = .str (tx l) ∧ ys = sgs l ∧ l.length ≤ sizeLine) (hj : ys[j]? = some x) (q : Q x H) : rIxA K v (.int (j : Nat)) H Q := by
  rcases h with ⟨a, rfl, h⟩ | ⟨l, rfl, rfl, h⟩
  · exact .inl ⟨a, ys, _, x, rfl, rfl, h, atI_nat hj, q⟩
  · obtain ⟨c, hc, rfl⟩ := get_map hj
    exact .inr ⟨l, _, c, rfl, rfl, h, atI_nat hc, q⟩
end

/-! ### sorted sgs -/
theorem perm_map {α β : Type} {f : α → β} : ∀ {ys : List β} {xs : List α}, ys.Perm (xs.map f) → ∃ zs : List α, zs.Perm xs ∧ ys = zs.map f := by
  intro ys xs h
  generalize hz : xs.map f = zs at h
  induction h generalizing xs with
  | nil => exact ⟨xs, List.Perm.refl _, hz.symm⟩
  | cons x h ih =>
    cases xs with
    | nil => simp at hz
    | cons a r =>
      rw [List.map_cons] at hz
      injection hz with h1 h2
      obtain ⟨zs, p, e⟩ := ih h2
      exact ⟨a :: zs, p.cons a, by rw [List.map_cons, h1, e]⟩
  | swap x y l =>
    cases xs with
    | nil => simp at hz
    | cons a r =>
      cases r with
      | nil => simp at hz
      | cons b t =>
        rw [List.map_cons, List.map_cons] at hz
        injection hz with h1 h2
        injection h2 with h2 h3
        exact ⟨b :: a :: t, List.Perm.swap _ _ _, by rw [List.map_cons, List.map_cons, h1, h2, h3]⟩
  | trans h1 h2 ih1 ih2 =>
    obtain ⟨zs, p, e⟩ := ih2 hz
    obtain ⟨ws, p2, e2⟩ := ih1 e.symm
    exact ⟨ws, p2.trans p, e2⟩
theorem ltCps_one (a b : Nat) : ltCps [a] [b] = decide (a < b) := by
  first | rfl | simp [ltCps]
theorem rising_signs : ∀ (ks : List Nat) (p : Nat), risingS (tx [p]) (ks.map fun c => tx [c]) = true → (p :: ks).Pairwise (· ≤ ·)
  | [], p, _ => by simp
  | k :: r, p, h => by
    rw [List.map_cons] at h
    unfold risingS at h
    rw [Bool.and_eq_true, tx_cps, tx_cps, ltCps_one] at h
    have h1 : p ≤ k := by simpa using h.1
    have h2 := rising_signs r k h.2
    refine List.Pairwise.cons (fun x hx => ?_) h2
    rcases List.mem_cons.mp hx with e | hx
    · omega
    · have := (List.pairwise_cons.mp h2).1 x hx
      omega
theorem sorted_signs {fs : List Nat} {ys : List Str} (hp : ys.Perm (fs.map fun c => tx [c])) (hs : sortedS ys = true) (nd : fs.Nodup) : ∃ ks : List Nat, ys = (ks.map fun c => tx [c]) ∧ ks.Perm fs ∧ ks.Pairwise (· < ·) := by
  obtain ⟨ks, p, rfl⟩ := perm_map hp
  refine ⟨ks, rfl, p, ?_⟩
  have hle : ks.Pairwise (· ≤ ·) := by
    cases ks with
    | nil => exact List.Pairwise.nil
    | cons a r => exact rising_signs r a hs
  have hne : ks.Nodup := p.nodup_iff.mpr nd
  exact (hle.and hne).imp fun h => by omega
theorem flat_ones : ∀ ks : List Nat, (ks.map fun c => [c]).flatten = ks
  | [] => rfl
  | k :: r => by rw [List.map_cons, List.flatten_cons, flat_ones r]; rfl
theorem eraseIdx_perm {α : Type} : ∀ {xs : List α} {i : Nat} {x : α}, xs[i]? = some x → (x :: xs.eraseIdx i).Perm xs
  | [], _, _, h => by simp at h
  | a :: r, 0, x, h => by
    have : a = x := by simpa using h
    subst this
    exact List.Perm.refl _
  | a :: r, i + 1, x, h => by
    have ih := eraseIdx_perm (xs := r) (i := i) (x := x) (by simpa using h)
    rw [List.eraseIdx_cons_succ]
    exact (List.Perm.swap _ _ _).trans (ih.cons a)
theorem sgs_erase (l : List Nat) (i : Nat) : (sgs l).eraseIdx i = sgs (l.eraseIdx i) := by
  unfold sgs
  induction l generalizing i with
  | nil => simp
  | cons a r ih =>
    cases i with
    | zero => simp
    | succ i => simp [ih]

/-! ### walks over a text -/
theorem lc_text {l : List Nat} {g : TG} {tt : TT} {te : TE} {vs : List Nat} {σ : L2.St} {H1 : Hp} {D : Addr} {Qd : Hp → Prop} (Pv : Nat → Hp → Prop) (h0 : Pv 0 (upd H1 D (.lst [])))
    (hs : ∀ (i c : Nat) H, l[i]? = some c → Pv i H → g (.str (tx [c])) (wipe σ vs) H fun σ2 H2 => wipe σ2 vs = wipe σ vs ∧ tt σ2 H2 fun b H3 =>
      if b = true then te σ2 H3 fun y H4 => ∃ acc, H4 D = some (.lst acc) ∧ acc.length < sizeLine ∧ Pv (i + 1) (upd H4 D (.lst (acc ++ [y]))) else Pv (i + 1) H3) (hd : ∀ H, Pv l.length H → Qd H) :
    ∃ W : Nat → Nat → Hp → Prop, (∃ m, W 0 m (upd H1 D (.lst []))) ∧ ∀ i m H, W i m H →
      ((Its (tx l)).stop i H ∧ Qd H) ∨ ((Its (tx l)).go i H ∧ ∃ Nx : Hp → Prop, (∀ H', Nx H' → ∃ m', m' < m ∧ W (i + 1) m' H') ∧ ∀ x H', (Its (tx l)).yld i H x H' → g x (wipe σ vs) H' fun σ2 H2 => wipe σ2 vs = wipe σ vs ∧ tt σ2 H2 fun b H3 =>
        if b = true then te σ2 H3 fun y H4 => ∃ acc, H4 D = some (.lst acc) ∧ acc.length < sizeLine ∧ Nx (upd H4 D (.lst (acc ++ [y]))) else Nx H3) := by
  have hsz : (tx l).cps.size = l.length := by simp [tx]
  refine ⟨fun i m H => m + i = l.length ∧ Pv i H, ⟨l.length, rfl, h0⟩, fun i m H h => ?_⟩
  obtain ⟨hm, p⟩ := h
  by_cases hi : i < l.length
  · refine .inr ⟨show i < (tx l).cps.size by rw [hsz]; exact hi, Pv (i + 1), fun H' p' => ⟨m - 1, by omega, by omega, p'⟩, fun x H' hy => ?_⟩
    obtain ⟨rfl, c, hc, rfl⟩ := hy
    have hc2 : l[i]? = some c := by simpa [tx] using hc
    exact hs i c _ hc2 p
  · have e : i = l.length := by omega
    subst e
    exact .inl ⟨show (tx l).cps.size ≤ l.length by rw [hsz]; exact Nat.le_refl _, hd H p⟩
theorem for_text {l : List Nat} {g : TG} {tb : TS} {D : Ends} {σ : L2.St} {H : Hp} (Pv : Nat → L2.St → Hp → Prop) (h0 : Pv 0 σ H)
    (hs : ∀ (i c : Nat) σ H, l[i]? = some c → Pv i σ H → g (.str (tx [c])) σ H fun σ2 H2 => tb { D with nx := Pv (i + 1), ct := Pv (i + 1), bk := D.nx } σ2 H2) (hd : ∀ σ H, Pv l.length σ H → D.nx σ H) :
    ∃ W : Nat → Nat → L2.St → Hp → Prop, (∃ m, W 0 m σ H) ∧ ∀ i m σ H, W i m σ H →
      ((Its (tx l)).stop i H ∧ D.nx σ H) ∨ ((Its (tx l)).go i H ∧ ∃ N : L2.St → Hp → Prop, (∀ σ' H', N σ' H' → ∃ m', m' < m ∧ W (i + 1) m' σ' H') ∧ ∀ x H', (Its (tx l)).yld i H x H' → g x σ H' fun σ2 H2 => tb { D with nx := N, ct := N, bk := D.nx } σ2 H2) := by
  have hsz : (tx l).cps.size = l.length := by simp [tx]
  refine ⟨fun i m σ H => m + i = l.length ∧ Pv i σ H, ⟨l.length, rfl, h0⟩, fun i m σ H h => ?_⟩
  obtain ⟨hm, p⟩ := h
  by_cases hi : i < l.length
  · refine .inr ⟨show i < (tx l).cps.size by rw [hsz]; exact hi, Pv (i + 1), fun σ' H' p' => ⟨m - 1, by omega, by omega, p'⟩, fun x H' hy => ?_⟩
    obtain ⟨rfl, c, hc, rfl⟩ := hy
    have hc2 : l[i]? = some c := by simpa [tx] using hc
    exact hs i c _ _ hc2 p
  · have e : i = l.length := by omega
    subst e
    exact .inl ⟨show (tx l).cps.size ≤ l.length by rw [hsz]; exact Nat.le_refl _, hd σ H p⟩
def rDivm : List V → Hp → VK → Prop := fun xs H Q => ∃ i j, xs = [.int i, .int j] ∧ 0 < j ∧ j < 1000000000 ∧ ∀ p, H p = none → Q (.ref p) (upd H p (.tup [.int (i / j), .int (i % j)]))
theorem call_divm {X : Cx} : CallR X (.builtin "divmod") rDivm := fun pins s σ H xs us Q I r h => by
  obtain ⟨i, j, e, h1, h2, q⟩ := h
  exact call_divmod pins s σ H xs us Q I r ⟨i, j, e, ⟨h1, by omega⟩, q⟩
theorem rd_divm {H : Hp} {Q : VK} {i j : Int} (h1 : 0 < j) (h2 : j < 1000000000) (q : ∀ p, H p = none → Q (.ref p) (upd H p (.tup [.int (i / j), .int (i % j)]))) : rDivm [.int i, .int j] H Q := ⟨i, j, rfl, h1, h2, q⟩
theorem rd_isiS {K : PySem.W.Frag} {H : Hp} {Q : VK} {z : Str} (q : Q (.bl true) H) : rIsi K [.str z, .ty "str"] H Q := ⟨_, _, _, _, true, rfl, .ty "str", .base (.str z), kit_ty (by decide +kernel), q⟩

theorem scal_int {i : Int} (h : i.natAbs < 2 ^ 250) : scalR (.int i) := Nat.lt_trans (PySem.Flt.log2_lt_of (by decide) h) (by decide)
theorem cut_zero (l : List Nat) (k : Nat) : cutL l none (some (k : Int)) = l.take k := by
  unfold cutL
  rw [HT.sIx_none, HT.sIx_nat, List.drop_zero, Nat.sub_zero]
  rcases Nat.le_total k l.length with h | h
  · rw [Nat.min_eq_left h]
  · rw [Nat.min_eq_right h, List.take_length, List.take_of_length_le h]
theorem mem_reps {n : Nat} {l : List Nat} {c : Nat} (h : c ∈ reps n l) : c ∈ l := by
  unfold reps at h
  rw [List.mem_flatten] at h
  obtain ⟨m, hm, hc⟩ := h
  rw [(List.mem_replicate.mp hm).2] at hc
  exact hc
end Un

namespace Un
open PySem PySem.Spec PyProof.Rows L2
/-! ### rstrip of one sign, startswith, order of texts -/
theorem tail_cut (g : Nat) : ∀ t : List Nat, ∃ p m, t = p ++ List.replicate m g ∧ ∀ c, p.getLast? = some c → c ≠ g := by
  intro t
  induction ht : t.length generalizing t with
  | zero =>
    have : t = [] := List.length_eq_zero_iff.mp ht
    subst this
    exact ⟨[], 0, rfl, fun c h => by cases h⟩
  | succ n ih =>
    have hne : t ≠ [] := by
      rintro rfl
      cases ht
    obtain ⟨q, d, rfl⟩ : ∃ q d, t = q ++ [d] := ⟨t.dropLast, t.getLast hne, (List.dropLast_concat_getLast hne).symm⟩
    by_cases hd : d = g
    · subst hd
      obtain ⟨p, m, e, h⟩ := ih q (by simpa using ht)
      exact ⟨p, m + 1, by rw [e, List.append_assoc, ← List.replicate_succ'], h⟩
    · exact ⟨q ++ [d], 0, by simp, fun c hc => by
        rw [List.getLast?_concat] at hc
        rw [← Option.some.inj hc]
        exact hd⟩
theorem takeWhile_rep (g : Nat) (f : Nat → Bool) (hf : ∀ c, f c = (c == g)) : ∀ (m : Nat) (r : List Nat), (∀ c, r.head? = some c → c ≠ g) → (List.replicate m g ++ r).takeWhile f = List.replicate m g
  | 0, [], _ => rfl
  | 0, c :: r, h => by
    have h1 := h c rfl
    show (c :: r).takeWhile f = []
    rw [List.takeWhile_cons, hf, if_neg (by simpa using h1)]
  | m + 1, r, h => by
    rw [List.replicate_succ, List.cons_append, List.takeWhile_cons, hf, if_pos (by simp), takeWhile_rep g f hf m r h]
theorem rstrip_tx {p : List Nat} {m g : Nat} (h : ∀ c, p.getLast? = some c → c ≠ g) : Txt.rstripChars (tx (p ++ List.replicate m g)) (tx [g]) = tx p := by
  have hlo : stripLo (tx [g]).cps.contains false (tx (p ++ List.replicate m g)) = 0 := rfl
  have hw : ((tx (p ++ List.replicate m g)).cps.toList.drop 0).reverse.takeWhile (tx [g]).cps.contains = List.replicate m g := by
    rw [tx_cps, List.drop_zero, List.reverse_append, List.reverse_replicate]
    refine takeWhile_rep g _ (fun c => ?_) m p.reverse (fun c hc => h c ?_)
    · show (#[g] : Array Nat).contains c = (c == g)
      simp [Array.contains]
    · rw [List.head?_reverse] at hc
      exact hc
  have hhi : stripHi (tx [g]).cps.contains true (tx (p ++ List.replicate m g)) 0 = p.length := by
    unfold stripHi
    rw [if_pos rfl, hw, tx_len, List.length_append, List.length_replicate]
    omega
  unfold Txt.rstripChars Txt.stripBy stripSame
  rw [hlo, hhi, tx_len, List.length_append, List.length_replicate]
  by_cases hm : m = 0
  · subst hm
    simp
  · rw [if_neg (by simp; omega)]
    unfold stripped
    rw [hlo, hhi]
    unfold Builtin.Str.strSub tx
    simp
def rRstX : V → List V → Hp → VK → Prop := fun x xs H Q => ∃ (p : List Nat) (m g : Nat), x = .str (tx (p ++ List.replicate m g)) ∧ xs = [.str (tx [g])] ∧ (∀ c, p.getLast? = some c → c ≠ g) ∧ p.length + m ≤ sizeLine ∧ Q (.str (tx p)) H
section
variable {X : Cx}
theorem mt_rstX : MtR X "str.rstrip" rRstX := by
  intro pins s σ H x xs v us Q I rx rs h
  obtain ⟨p, m, g, rfl, rfl, hp, hz, q⟩ := h
  exact mt_rstripChars pins s σ H _ _ v us Q I rx rs ⟨_, _, rfl, rfl, by rw [tx_len, List.length_append, List.length_replicate]; exact hz, by rw [rstrip_tx hp]; exact q⟩
theorem starts_tx (a b : List Nat) : Txt.startswith (tx a) (tx b) = b.isPrefixOf a := by
  unfold Txt.startswith Builtin.Str.subAt
  rw [tx_len, tx_len, Nat.zero_add, Bool.eq_iff_iff, List.isPrefixOf_iff_prefix, Bool.and_eq_true, decide_eq_true_eq, beq_iff_eq]
  have e : (tx a).cps.extract 0 b.length = (tx b).cps ↔ a.take b.length = b := by
    rw [← Array.toList_inj]
    simp [tx]
  rw [e]
  constructor
  · rintro ⟨h1, h2⟩
    rw [← h2]
    exact List.take_prefix _ _
  · rintro ⟨r, rfl⟩
    simp
def rStartX : V → List V → Hp → VK → Prop := fun x xs H Q => ∃ a b : List Nat, x = .str (tx a) ∧ xs = [.str (tx b)] ∧ Q (.bl (b.isPrefixOf a)) H
theorem mt_startX : MtR X "str.startswith" rStartX := by
  intro pins s σ H x xs v us Q I rx rs h
  obtain ⟨a, b, rfl, rfl, q⟩ := h
  exact mt_startswith pins s σ H _ _ v us Q I rx rs ⟨_, _, rfl, rfl, by rw [starts_tx]; exact q⟩
theorem op_leX : OpR X (compareOp .LtE) rLeX := by
  intro pins s σ H x y v u Q I rx ry h
  obtain ⟨a, b, rfl, rfl, q⟩ := h
  exact op_le_str pins s σ H _ _ v u Q I rx ry ⟨_, _, rfl, rfl, by rw [tx_cps, tx_cps]; exact q⟩
def rIsN1 : R2 := fun x y H Q => y = .non ∧ Q (.bl (decide (x = .non))) H
def rNotN1 : R2 := fun x y H Q => y = .non ∧ Q (.bl (!decide (x = .non))) H
theorem op_isN' : OpR X (compareOp .Is) rIsN1 := op_isN
theorem op_notN' : OpR X (compareOp .IsNot) rNotN1 := op_notN
end
section
variable {K : PySem.W.Frag} {H : Hp} {Q : VK} {x : V}
theorem rd_rstX {p : List Nat} {m g : Nat} (h : ∀ c, p.getLast? = some c → c ≠ g) (hz : p.length + m ≤ sizeLine) (q : Q (.str (tx p)) H) : rRstX (.str (tx (p ++ List.replicate m g))) [.str (tx [g])] H Q := ⟨p, m, g, rfl, rfl, h, hz, q⟩
theorem rd_startX {a b : List Nat} (q : Q (.bl (b.isPrefixOf a)) H) : rStartX (.str (tx a)) [.str (tx b)] H Q := ⟨a, b, rfl, rfl, q⟩
theorem rd_leX {a b : List Nat} (q : Q (.bl (!decide (b < a))) H) : rLeX (.str (tx a)) (.str (tx b)) H Q := ⟨a, b, rfl, rfl, q⟩
theorem rd_isN1 (q : Q (.bl (decide (x = .non))) H) : rIsN1 x .non H Q := ⟨rfl, q⟩
theorem rd_notN1 (q : Q (.bl (!decide (x = .non))) H) : rNotN1 x .non H Q := ⟨rfl, q⟩
theorem rd_eqNilNil {p e : Addr} (h1 : SqL K H p []) (h2 : SqL K H e []) (q : Q (.bl true) H) : rEqD K (.ref p) (.ref e) H Q := ⟨.list [], .list [], .lst h1 .nil, .lst h2 .nil, shaped_ints [], shaped_ints [], by rw [eqv_nil_list]; exact q⟩
theorem rd_neNilNil {p e : Addr} (h1 : SqL K H p []) (h2 : SqL K H e []) (q : Q (.bl false) H) : rNeD K (.ref p) (.ref e) H Q := ⟨.list [], .list [], .lst h1 .nil, .lst h2 .nil, shaped_ints [], shaped_ints [], by rw [eqv_nil_list]; exact q⟩
theorem rd_cat {p q : Addr} {xs ys : List V} (h1 : H p = some (.lst xs)) (h2 : H q = some (.lst ys)) (hz : xs.length + ys.length ≤ sizeLine) (k : ∀ n, H n = none → Q (.ref n) (upd H n (.lst (xs ++ ys)))) : rCat (.ref p) (.ref q) H Q := ⟨p, q, xs, ys, rfl, rfl, h1, h2, hz, k⟩
end
theorem reps_one (n g : Nat) : reps n [g] = List.replicate n g := by
  unfold reps
  induction n with
  | zero => rfl
  | succ n ih => rw [List.replicate_succ, List.flatten_cons, ih]; rfl
theorem atI_m1 {l : List Nat} {c : Nat} (h : l.getLast? = some c) : atI l (-1) = some c := by
  have hne : l ≠ [] := by
    rintro rfl
    cases h
  rw [List.getLast?_eq_getLast hne] at h
  rw [← Option.some.inj h]
  conv => lhs; rw [← List.dropLast_concat_getLast hne]
  exact atI_last _ _
theorem cut_m1 (l : List Nat) (c : Nat) : cutL (l ++ [c]) none (some (-1)) = l := by
  unfold cutL
  have h : HT.sIx (l ++ [c]).length (l ++ [c]).length (some (-1)) = l.length := by
    unfold HT.sIx
    rw [List.length_append]
    simp
    try omega
  rw [HT.sIx_none, h]
  simp
end Un

set_option maxHeartbeats 2000000
/-! UnZip: zip of two texts, the signs in new pairs. -/
namespace Un
open PySem PySem.Spec PyProof.Rows L2
def ItzS (x y : Str) : It :=
  ⟨fun i _ => i < x.cps.size ∧ i < y.cps.size,
    fun i H v H' => ∃ T c d, v = .ref T ∧ H T = none ∧ H' = upd H T (.tup [.str ⟨#[c]⟩, .str ⟨#[d]⟩]) ∧ x.cps[i]? = some c ∧ y.cps[i]? = some d,
    fun i _ => i ≤ x.cps.size ∧ i ≤ y.cps.size ∧ (i = x.cps.size ∨ i = y.cps.size)⟩
theorem turn_zipS {P : Program} {w : World} {K : PySem.W.Frag} {elts : List Expr} {kk : Nat} {tpos : Pos} {z TI TO i1 i2 : Addr} {x y : Str} {t u : Tok} (D : ZipSep2 z TI TO i1 i2 [i1] [i2]) :
    Turn P w K (.Tuple elts kk tpos) (ItzS x y) [z, TI, TO, i1, i2] z (fun i h => IsZip h z TI TO .none ∧ IsTupOf2 h TI (.ref i1) (.ref i2) ∧ (∃ a b, IsTupOf2 h TO a b) ∧ h.IsStrIter i1 (strIterType x) x t i ∧ h.IsStrIter i2 (strIterType y) y u i) where
  mem := by simp
  obj := fun i h st c hc => by
    obtain ⟨hz, hTI, ⟨a, b, hTO⟩, ⟨o1, e1, _, d1⟩, ⟨o2, e2, _, d2⟩⟩ := st
    have e' : c = z ∨ c = TI ∨ c = TO ∨ c = i1 ∨ c = i2 := by simpa using hc
    rcases e' with q | q | q | q | q
    · rw [q]; exact ⟨_, hz, fun v q => nomatch q⟩
    · rw [q]; exact ⟨_, hTI, fun v q => nomatch q⟩
    · rw [q]; exact ⟨_, hTO, fun v q => nomatch q⟩
    · rw [q]; exact ⟨o1, e1, fun v q => by rw [d1] at q; cases q⟩
    · rw [q]; exact ⟨o2, e2, fun v q => by rw [d2] at q; cases q⟩
  keep := fun i h h' st k => by
    obtain ⟨hz, hTI, ⟨a, b, hTO⟩, ⟨o1, e1, r1⟩, ⟨o2, e2, r2⟩⟩ := st
    exact ⟨k z (by simp) _ hz, k TI (by simp) _ hTI, ⟨a, b, k TO (by simp) _ hTO⟩, ⟨o1, k i1 (by simp) o1 e1, r1⟩, ⟨o2, k i2 (by simp) o2 e2, r2⟩⟩
  item := by
    intro X hP hw hK hc i pins s σ H E I hf st hg
    subst hP hw hK
    obtain ⟨hz, hTI, ⟨a, b, hTO⟩, h1, h2⟩ := st
    have hzl : z < s.heap.objs.size := Heap.lt_size hz
    have hd : X.A.in1.handled = none := I.ok.hd hc
    refine wpAny_pyNext_zipD2_item D (Draws.text hd i1 x t) (Draws.text hd i2 y u) hz hTI hTO h1 h2 hg.1 hg.2 fun x1 x2 h' tk p1 p2 z' TO' h1' h2' hT hsz hk => ?_
    obtain ⟨c, tc, hcx, rfl⟩ := p1
    obtain ⟨d, td, hdy, rfl⟩ := p2
    refine ⟨_, rfl, wpAny_letOwnedTupleGo_zip (s := { s with heap := h', toks := tk }) z' fun h'' z'' sb => ?_⟩
    have hT2 : h''.get? s.heap.objs.size = some { cls := .type "tuple", data := .seq #[.str ⟨#[c]⟩ tc, .str ⟨#[d]⟩ td] } := (sb.2 _ (Nat.ne_of_gt hzl)).trans hT
    have new : ObjOk X.prog X.w (upd H s.heap.objs.size (.tup [.str ⟨#[c]⟩, .str ⟨#[d]⟩])) h'' s.heap.objs.size (.tup [.str ⟨#[c]⟩, .str ⟨#[d]⟩]) :=
      ⟨by show 2 ≤ sizeLine; decide, [.str ⟨#[c]⟩ tc, .str ⟨#[d]⟩ td], .cons ⟨tc, rfl⟩ (.cons ⟨td, rfl⟩ .nil), ⟨_, hT2, rfl, _, rfl⟩⟩
    have I1 : Inv X pins σ (upd H s.heap.objs.size (.tup [.str ⟨#[c]⟩, .str ⟨#[d]⟩])) { s with heap := h'', toks := tk } :=
      I.turnedNew (t' := tk) (ch := [z, TI, TO, i1, i2]) (fun c o hb q => (sb.2 c (fun q' => hb (by simp [q']))).trans (hk c o (fun q' => hb (by simp [q'])) (fun q' => hb (by simp [q'])) (fun q' => hb (by simp [q'])) (fun q' => hb (by simp [q'])) q)) hf (Nat.le_refl _) new
    have l1 : i1 < s.heap.objs.size := by obtain ⟨_, e1, _⟩ := h1; exact Heap.lt_size e1
    have l2 : i2 < s.heap.objs.size := by obtain ⟨_, e1, _⟩ := h2; exact Heap.lt_size e1
    refine ⟨.ref s.heap.objs.size, _, I1, rfl, ⟨_, c, d, rfl, I.hok.fresh (Nat.le_refl _), rfl, hcx, hdy⟩, ⟨z'', ?_, ⟨.str ⟨#[c]⟩ tc, .str ⟨#[d]⟩ td, ?_⟩, ?_, ?_⟩, fun c hcm => ?_⟩
    · exact (sb.2 _ D.TIz).trans (hk _ _ D.TIz D.TITO D.TIi1 D.TIi2 hTI)
    · exact (sb.2 _ D.TOz).trans TO'
    · obtain ⟨o, e, r⟩ := h1'
      exact ⟨o, (sb.2 _ D.zi1.symm).trans e, r⟩
    · obtain ⟨o, e, r⟩ := h2'
      exact ⟨o, (sb.2 _ D.zi2.symm).trans e, r⟩
    · have hlt : c < s.heap.objs.size := by
        have e' : c = z ∨ c = TI ∨ c = TO ∨ c = i1 ∨ c = i2 := by simpa using hcm
        rcases e' with q | q | q | q | q
        · rw [q]; exact hzl
        · rw [q]; exact Heap.lt_size hTI
        · rw [q]; exact Heap.lt_size hTO
        · rw [q]; exact l1
        · rw [q]; exact l2
      rw [upd_ne (Nat.ne_of_lt hlt)]
      exact (hf c hcm).1
  done := by
    intro X hP hw hK hc i pins s σ H E I hf st hg
    subst hP hw hK
    obtain ⟨hz, hTI, ⟨a, b, hTO⟩, h1, h2⟩ := st
    have hd : X.A.in1.handled = none := I.ok.hd hc
    exact wpAny_pyNext_zipD2_end D (Draws.text hd i1 x t) (Draws.text hd i2 y u) hz hTI hTO h1 h2 hg.1 hg.2.1 hg.2.2 fun h' tk hk => ⟨rfl, I.turnedL (t' := tk) (ch := [z, TI, TO, i1, i2]) (fun c o hb q =>
      hk c o (fun q' => hb (by simp [q'])) (fun q' => hb (by simp [q'])) (fun q' => hb (by simp [q'])) (fun q' => hb (by simp [q'])) q) hf⟩
  self := fun A i s Q E st h => wpAny_pyIter_zip st.1 h
def iZipS (ta : TA) : TI := fun σ H R => ta σ H fun vs H1 => ∃ x y, vs = [.str x, .str y] ∧ R (ItzS x y) H1
theorem sep5 (n : Addr) : ZipSep2 (n + 4) (n + 2) (n + 3) n (n + 1) [n] [n + 1] where
  TIz := Nat.ne_of_lt (Nat.add_lt_add_left (by decide) n)
  TOz := Nat.ne_of_lt (Nat.add_lt_add_left (by decide) n)
  TITO := Nat.ne_of_lt (Nat.add_lt_add_left (by decide) n)
  TIi1 := Nat.ne_of_gt (Nat.lt_add_of_pos_right (by decide))
  mem1 := List.mem_singleton.mpr rfl
  zf1 := fun h => absurd (List.mem_singleton.mp h) (Nat.ne_of_gt (Nat.lt_add_of_pos_right (by decide)))
  Tf1 := fun h => absurd (List.mem_singleton.mp h) (Nat.ne_of_gt (Nat.lt_add_of_pos_right (by decide)))
  TIi2 := Nat.ne_of_gt (Nat.add_lt_add_left (by decide) n)
  mem2 := List.mem_singleton.mpr rfl
  zf2 := fun h => absurd (List.mem_singleton.mp h) (Nat.ne_of_gt (Nat.add_lt_add_left (by decide) n))
  Tf2 := fun h => absurd (List.mem_singleton.mp h) (Nat.ne_of_gt (Nat.add_lt_add_left (by decide) n))
  sep1_2 := fun h => absurd (List.mem_singleton.mp h) (Nat.ne_of_lt (Nat.lt_add_of_pos_right (by decide)))
  sep2_1 := fun h => absurd (List.mem_singleton.mp h) (Nat.ne_of_gt (Nat.lt_add_of_pos_right (by decide)))
theorem pi_zipS {X : Cx} {e e2 : Expr} {ta : TA} {p pos tpos : Pos} {elts : List Expr} {kk : Nat} (hg : Gl X "zip") (hm : X.mg "zip" = none) (ha : PA X [e, e2] ta)
    (hs : starEach [e, e2] X.env = (false, eval e X.env) :: starEach [e2] X.env := by rfl) (hpl : (backTo pos (starEach [e2] X.env)).any (·.1) = false := by rfl) :
    PI X (.Tuple elts kk tpos) (.Call (.Name "zip" p) [e, e2] [] pos) (iZipS ta) := by
  refine ⟨fun pins s σ H R I h => ?_⟩
  refine Call_ (ld_blt I hg hm PyProof.Rows.boot_zip (PyProof.Rows.callWith_type1 (thn (ha.run pos pins s σ H _ I h) fun us s1 ⟨vs, H1, I1, r1, q1⟩ => ?_) hs hpl))
  obtain ⟨x, y, ex, q⟩ := q1
  subst ex
  cases r1 with
  | cons r rr =>
    cases rr with
    | cons r' rr =>
      cases rr
      obtain ⟨t, rfl⟩ := r
      obtain ⟨u, rfl⟩ := r'
      have fresh5 : ∀ c, c ∈ [s1.heap.objs.size + 4, s1.heap.objs.size + 2, s1.heap.objs.size + 3, s1.heap.objs.size, s1.heap.objs.size + 1] → FpOk X pins H1 c := fun c hcm => by
        have e' : c = s1.heap.objs.size + 4 ∨ c = s1.heap.objs.size + 2 ∨ c = s1.heap.objs.size + 3 ∨ c = s1.heap.objs.size ∨ c = s1.heap.objs.size + 1 := by simpa using hcm
        have hle : s1.heap.objs.size ≤ c := by
          rcases e' with z | z | z | z | z
          · rw [z]; exact Nat.le_add_right _ _
          · rw [z]; exact Nat.le_add_right _ _
          · rw [z]; exact Nat.le_add_right _ _
          · rw [z]; exact Nat.le_refl _
          · rw [z]; exact Nat.le_add_right _ _
        exact I1.fpOk hle (I1.hok.fresh hle)
      refine zip_begins2 (begins_text x t) (begins_text y u) trivial trivial fun h' hz hTI hTO h1 h2 hsz hk => wpAny_pyIter_zip hz ?_
      have I2 : Inv X pins σ H1 { s1 with heap := h' } := I1.kept (t' := s1.toks) hk
      exact ⟨s1.heap.objs.size + 4, [s1.heap.objs.size + 4, s1.heap.objs.size + 2, s1.heap.objs.size + 3, s1.heap.objs.size, s1.heap.objs.size + 1], _, _, H1, rfl, I2,
        turn_zipS (sep5 _), ⟨hz, hTI, ⟨_, _, hTO⟩, ⟨_, h1, rfl, rfl⟩, ⟨_, h2, rfl, rfl⟩⟩, fresh5, q⟩
theorem rd_zipS {x y : Str} {H : Hp} {R : It → Hp → Prop} (q : R (ItzS x y) H) : ∃ x' y', [V.str x, V.str y] = [.str x', .str y'] ∧ R (ItzS x' y') H := ⟨x, y, rfl, q⟩
end Un

/-! Defs whose promise is kept where no guard of a repr stands around the call: the same three steps as for a plain def (entry, body, call), each with one premise more. -/
namespace Un
open PySem PySem.Spec PyProof.Rows L2
structure FnG (P : Program) (w : World) (K : PySem.W.Frag) (mg : Str → Option Value) (base : Heap) (k : Nat) (f : Addr) (fd : FuncData) (ps : List Str) (sp : Sp) : Prop where
  len : ∀ vs H Q E, sp vs H Q E → vs.length = ps.length
  run : ∀ (A : Around) (outer : List Env) (s : Shared) (H : Hp) (args : Args) (us : List Value) (vs : List V) (Q : VK) (E : XK), A.guards = some [] → Room k A → Env0 P w K mg base A outer s H → BindsTo s fd args (ps.zip us) →
    Vals vs us → sp vs H Q E → codeAny (model P w) A (.call (.ref f) args) (CR CX0 outer P w H s Q E) s
section
variable {P : Program} {w : World} {K : PySem.W.Frag} {mg : Str → Option Value} {base : Heap}
theorem okG {nm qual : Str} {st : Stmt} {f : Addr} {fd : FuncData} {N ps : List Str} {k : Nat} {sp : Sp} (F : Fun K nm qual st f fd) (S : FnScope N ps (defScope st)) (hlen : ∀ vs H Q E, sp vs H Q E → vs.length = ps.length)
    (hb : ∀ (cdv : Value) (A : Around) (outer : List Env) (s : Shared) (H : Hp) (vs : List V) (Q : VK) (E : XK), A.guards = some [] → Room k (A.deeper (envOfC qual (defScope st) s.heap.objs.size f cdv)) → sp vs H Q E →
      ∃ t, PSs (cxOf CX0 P w K mg base N qual (defScope st) f cdv A outer s H E).nox (defBody st) t ∧ t { nx := fun _ H' => Q .non H', rt := Q } (start N vs) H) : FnG P w K mg base (k + 1) f fd ps sp := by
  obtain ⟨c1, c2, c3, c4, c5, c6, cdv, c7, c8, rfl, look, code⟩ := F.ex
  constructor
  · exact hlen
  · intro A outer s H args us vs Q E gA room e0 bd rel asked
    have same := hlen _ _ _ _ asked
    have inHeap : K.In s.heap := e0.mod.kin.keeps fun b o hbo => (e0.bs b o hbo).1
    have free := e0.mod.nolimit.keeps (h' := s.heap) fun b o hbo => (e0.bs b o hbo).1
    have kinds : ∀ y ∈ ps.zip us, (defScope st).names.lookup y.1 = some .local ∨ ((defScope st).names.lookup y.1 = some .cell ∧ ((cellsFrom (s.heap.objs.size + 1) (defScope st).names []).lookup y.1).isSome = true) := by
      rintro ⟨n, v⟩ hy
      exact (S.par n (List.of_mem_zip hy).1).imp id fun hc => ⟨hc, PySem.W.cellsFrom_some _ _ _ (.inl hc)⟩
    refine codeAny_call_function room.depth (inHeap _ _ look) rfl S.co S.gen rfl (PySem.W.codeRec_of inHeap code) (bd _ _ _ _ ?_)
    refine wpAny_newFunctionEnv_cells S.kind kinds fun env henv s1 entry => ?_
    subst henv
    obtain ⟨t, ht, hq⟩ := hb cdv A outer s H vs Q E gA (room.deeper _) asked
    have I0 : Inv (cxOf CX0 P w K mg base N qual (defScope st) f cdv A outer s H E) [] (start N vs) H s1 := inv_start S room.hd e0 same rel entry
    refine ⟨free.keeps entry.toInCall.keep, codeAny_func (wpAny_mono (ht.nox.run [] s1 (start N vs) H _ I0 hq) (fun flow s' hs => ?_) fun e s' hs => hs)⟩
    cases flow with
    | ret u => exact match hs with | ⟨v, σ', H', J, rv, q⟩ => ⟨v, H', J.os, J.bare, J.base, J.hok, rv, q⟩
    | next => exact match hs with | ⟨σ', H', J, q⟩ => ⟨V.non, H', J.os, J.bare, J.base, J.hok, rfl, q⟩
    | brk => exact match hs with | ⟨_, _, _, q⟩ => False.elim q
    | cont => exact match hs with | ⟨_, _, _, q⟩ => False.elim q
/-- a def under its name, of that kind -/
def ClG (P : Program) (w : World) (K : PySem.W.Frag) (mg : Str → Option Value) (base : Heap) (nm : Str) (ps : List Str) (k : Nat) (sp : Sp) : Prop :=
  ∃ (f : Addr) (fd : FuncData), mg nm = some (.ref f) ∧ FnG P w K mg base k f fd ps sp ∧ PySem.W.keepIn K (.ref f) = true ∧ Binds K fd ps []
theorem clG_of {nm : Str} {st : Stmt} {ps : List Str} {k : Nat} {sp : Sp} (a : At K mg nm st ps) (h : ∀ f fd, Fun K nm nm st f fd → FnG P w K mg base k f fd ps sp) : ClG P w K mg base nm ps k sp := by
  obtain ⟨f, fd, F, m, b⟩ := a
  exact ⟨f, fd, m, h f fd F, F.kp, b⟩
end
section
variable {X : Cx} {nm : Str} {ps : List Str} {k : Nat} {sp : Sp} {e : Expr} {es : List Expr} {t : TA} {p pos : Pos}
theorem pe_clG (c : ClG X.prog X.w X.K X.mg X.base nm ps k sp) (hgd : X.A.guards = some []) (hr : Room k X.A) (hg : Gl X nm) (ha : PA X (e :: es) t)
    (hdb : (nm == ("__debug__" : Str)) = false := by decide) (he : starEach (e :: es) X.env = (false, eval e X.env) :: starEach es X.env := by rfl) (hpl : (backTo pos (starEach es X.env)).any (·.1) = false := by rfl) :
    PE X (.Call (.Name nm p) (e :: es) [] pos) (tCall sp [] E0 t) := by
  obtain ⟨f, fd, m, F, kp, b⟩ := c
  constructor
  intro pins s σ H Q I h
  refine wpAny_Call_Name_kw (ld_glob I hg m (PySem.W.callWith_K (h₀ := X.base) I.ok.mod.kin kp (thn (ha.run pos pins s σ H _ I h) fun us s1 hx => ?_) he hpl) hdb)
  obtain ⟨vs, H1, I1, r, q⟩ := hx
  refine ⟨I1.kIn, ?_⟩
  rw [List.append_nil] at q
  have n1 : us.length = ps.length := by
    rw [← r.length]
    exact F.len _ _ _ _ q
  have bd := b s1 us I1.kIn (by rw [List.append_nil]; exact n1)
  rw [List.append_nil] at bd
  refine wpAny_call (codeAny_mono (F.run X.A X.stack s1 H1 ⟨us, []⟩ us vs Q E0 hgd hr I1.env0 bd r q) fun res s' hres => ?_)
  match res, hres with
  | .error e, hres => exact (show False from hres).elim
  | .ok (.ret u), hres => exact I1.after hres
  | .ok .next, hres => exact (show False from hres).elim
  | .ok .brk, hres => exact (show False from hres).elim
  | .ok .cont, hres => exact (show False from hres).elim
end
/-! ### repr of data -/
def rReprD (K : PySem.W.Frag) : List V → Hp → VK → Prop := fun xs H Q => ∃ (a : Addr) (d : PyData), xs = [.ref a] ∧ Dp K H (.ref a) d ∧ d.showable = true ∧ d.hasDict = false ∧ d.depth ≤ 60 ∧ d.shown.length ≤ sizeLine ∧ Q (.str d.shown) H
theorem call_reprD {X : Cx} {k : Nat} (hgd : X.A.guards = some []) (hr : Room k X.A) : CallR X (.builtin "repr") (rReprD X.K) := by
  intro pins s σ H xs us Q I r h
  obtain ⟨a, d, rfl, hd, hs, hn, hz, hl, q⟩ := h
  obtain ⟨u, rfl, rx⟩ := vals1 r
  obtain ⟨as, rd⟩ := Dp.reads I d _ u hd rx
  cases rx
  have hu := hr.units
  refine repr_of_reads' rd hs (PyData.noDict_hsm hn) hgd (by omega) (fun _ _ e => e) (fun h' u tk hk => ?_) hl
  exact ⟨.str d.shown, H, I.kept (t' := tk) hk, ⟨u, rfl⟩, q⟩

/-! ### the end of a law whose def is of that kind -/
theorem runG {P : Program} {w : World} {K : PySem.W.Frag} {mg mb : Str → Option Value} {k : Nat} {fa a : Addr} {fd : FuncData} {x : Str} {sp : Sp} {s₁ : Shared} {vs : List Value} {ns : List Int}
    (KX : K.In s₁.heap) (hns : s₁.heap.Ns mainGlobals mg) (hb : s₁.heap.Ns builtinsNs mb) (hbb : ∀ x : Str, x ≠ "__name__" → mb x = bootBuiltins x) (hlim : s₁.heap.NoLimit) (hg : s₁.gens = #[])
    (ha : s₁.heap.get? a = some { cls := .type "list", data := .seq vs.toArray }) (hi : IntsAre vs ns) (hl : ns.length ≤ sizeLine) (room : Room k callerA)
    (F : ∀ base : Heap, K.In base → base.Ns mainGlobals mg → FnG P w K mg base k fa fd [x] sp) (bind1 : ∀ (s : Shared) (u : Value), BindsTo s fd ⟨[u], []⟩ [(x, u)])
    (told : ∀ H : Hp, Only H → SqL K H a (ns.map V.int) → sp [.ref a] H (fun v _ => v = .bl true) fun _ _ _ => False) :
    codeAny (model P w) callerA (.call (.ref fa) ⟨[.ref a], []⟩) (fun r s' => r = .ok (.ret (.bool true)) ∧ OldK s₁.heap s'.heap ∧ s'.os = s₁.os ∧ AllBare s'.gens) s₁ := by
  have relV := vals_ints hi
  have sizes := hi.length
  suffices from_ : ∀ H : Hp, (∀ b u, H b = some u → b = a ∧ K.lookup a = none ∧ u = .frz { cls := .type "list", data := .seq vs.toArray } (.lst (ns.map V.int))) → SqL K H a (ns.map V.int) →
      codeAny (model P w) callerA (.call (.ref fa) ⟨[.ref a], []⟩) (fun r s' => r = .ok (.ret (.bool true)) ∧ OldK s₁.heap s'.heap ∧ s'.os = s₁.os ∧ AllBare s'.gens) s₁ by
    cases look : K.lookup a with
    | some o =>
      have there := KX a o look
      rw [ha] at there
      obtain rfl := Option.some.inj there
      exact from_ (fun _ => none) (fun b u z => by cases z) (.inr ⟨_, vs.toArray, _, look, rfl, rfl, rfl, by rw [List.size_toArray, sizes]; exact hl, by simpa using relV⟩)
    | none =>
      refine from_ (fun b => if b = a then some (.frz { cls := .type "list", data := .seq vs.toArray } (.lst (ns.map V.int))) else none) (fun b u z => ?_) (.inl (.inr ⟨_, if_pos rfl⟩))
      by_cases e : b = a
      · rw [if_pos e] at z
        exact ⟨e, look, (Option.some.inj z).symm⟩
      · rw [if_neg e] at z
        cases z
  intro H hH hS
  have only1 : Only H := fun b => by
    cases z : H b with
    | none => exact .inl rfl
    | some u => exact .inr ⟨_, _, by rw [(hH b u z).2.2]⟩
  have held : HOk P w H s₁.heap := fun b u z => by
    obtain ⟨rfl, _, rfl⟩ := hH b u z
    exact ⟨ha, by rw [List.length_map]; exact hl, vs, _, relV, ha⟩
  have not_dict : ∀ {b : Addr} {o : Obj} {es : Array DictEntry} {ep : Nat}, s₁.heap.get? b = some o → o.data = .dict es ep → H b = none := fun {b o es ep} e d => by
    cases z : H b with
    | none => rfl
    | some u =>
      obtain ⟨rfl, _, _⟩ := hH b u z
      rw [ha] at e
      obtain rfl := Option.some.inj e
      cases (show Data.seq vs.toArray _ = Data.dict es ep from d)
  have hidden : ∀ {b : Addr} {m : Str → Option Value}, s₁.heap.Ns b m → (hidT s₁.heap H).Ns b m := by
    rintro b m ⟨o, es, ep, e, d, r⟩
    exact ⟨o, es, ep, hidT_get e (not_dict e d), d, r⟩
  have kIn : K.In (hidT s₁.heap H) := fun b o e => hidT_get (KX b o e) (by
    cases z : H b with
    | none => rfl
    | some u =>
      obtain ⟨rfl, n, _⟩ := hH b u z
      rw [n] at e
      cases e)
  have md : Mod K mg (hidT s₁.heap H) := ⟨kIn, hidden hns, ⟨mb, hidden hb, hbb⟩, match hlim with | ⟨mc, h1, h2⟩ => ⟨mc, hidden h1, h2⟩⟩
  have none_in : ∀ b : Addr, b ∈ ([] : List Addr) → False := fun b hb => by cases hb
  have env0 : Env0 P w K mg (hidT s₁.heap H) callerA [] s₁ H := ⟨rfl, md, fun b o e => of_hidT e, Nat.le_of_eq (hidT_size _ _), trivial, fun b hb => (none_in b hb).elim, held, .of_eq hg⟩
  refine codeAny_mono ((F _ kIn (hidden hns)).run callerA [] s₁ H ⟨[.ref a], []⟩ [.ref a] [.ref a] _ _ rfl room env0 (bind1 s₁ (.ref a)) (.cons rfl .nil) (told H only1 hS)) fun r s' h => ?_
  match r, h with
  | .error e, h => exact (show False from h).elim
  | .ok .next, h => exact (show False from h).elim
  | .ok .brk, h => exact (show False from h).elim
  | .ok .cont, h => exact (show False from h).elim
  | .ok (.ret u), h =>
    obtain ⟨v, H', hos, hbare, un, held', rv, rfl⟩ := h
    obtain rfl : u = Value.bool true := rv
    refine ⟨rfl, OldK.of_keep fun b o e => ?_, hos, hbare⟩
    cases z : H b with
    | none => exact un.keep b o e z (none_in b) (none_in b)
    | some y =>
      obtain ⟨rfl, _, rfl⟩ := hH b y z
      have e1 := (held _ _ z).1
      rw [e] at e1
      rw [Option.some.inj e1]
      exact (held' _ _ (un.frzs _ _ _ z)).1
theorem walk_ofG {l : PySem.W.OpenLaw} {n k : Nat} {q : Program} {loose : List Str} {XP : (Str → Option Value) → Heap → Prop} {YP : World → Heap → Prop} {d : DefRec} {K : Params → PySem.W.Frag} {sp : World → Sp} {x : Str}
    (hn : l.most = some n) (hn2 : n ≤ sizeLine) (hdf : d.params.defaults = []) (room : Room k callerA) (hY : ∀ (w : World) (h : Heap), YP w h → (K w.params).In h)
    (F : ∀ (w : World) (mg : Str → Option Value) (fa : Addr) (h : Heap), (K w.params).In h → h.Ns mainGlobals mg → mg d.name = some (.ref fa) →
      ∃ fd : FuncData, (∀ (s : Shared) (u : Value), BindsTo s fd ⟨[u], []⟩ [(x, u)]) ∧ ∀ base : Heap, (K w.params).In base → base.Ns mainGlobals mg → FnG l.prog w (K w.params) mg base k fa fd [x] (sp w))
    (told : ∀ (w : World) (H : Hp) (a : Addr) (ns : List Int), ns.length ≤ n → Only H → SqL (K w.params) H a (ns.map V.int) → sp w [.ref a] H (fun v _ => v = .bl true) fun _ _ _ => False) :
    PySem.W.WalkO q loose XP YP l.row.toRowW d [] (fun f vs => PySem.call f vs) := by
  refine Att.attach_callB hn hdf fun w s₀ s₁ mg mb fa o pm cd doc a vs ns G Y ho hd hcd hmg hobj hints hlen _ hg => ?_
  obtain ⟨fd, bnd, hF⟩ := F w mg fa _ (hY w _ Y) G.T.g hmg
  exact runG (hY w _ Y) G.T.g G.T.b G.T.builtins G.T.nolimit hg hobj hints (Nat.le_trans hlen hn2) room hF bnd fun H => told w H a ns hlen
end Un

namespace Un
open PySem PySem.Spec PyProof.Rows L2
/-! ### for i, c in enumerate(text) -/
def ItEX (x : Str) : It := ⟨fun i _ => i < x.cps.size, fun i H v H' => ∃ (T : Addr) (c : Nat), v = .ref T ∧ H T = none ∧ x.cps[i]? = some c ∧ H' = upd H T (.tup [.int (i : Nat), .str ⟨#[c]⟩]), fun i _ => i = x.cps.size⟩
theorem turn_enumX {P : Program} {w : World} {K : PySem.W.Frag} {elts : List Expr} {kk : Nat} {tpos : Pos} (x : Str) (t : Tok) (e it : Addr) :
    Turn P w K (.Tuple elts kk tpos) (ItEX x) [e, it] e (fun i h => (∃ old, IsEnum h e it ((i : Nat) : Int) old) ∧ h.IsStrIter it (strIterType x) x t i ∧ e ≠ it) where
  mem := List.mem_cons_self
  obj := by
    rintro i h ⟨⟨old, he⟩, ⟨o, ho, hc, hd⟩, _⟩ b hb
    rcases List.mem_cons.mp hb with rfl | hb
    · exact ⟨_, he, fun v q => nomatch q⟩
    · obtain rfl := List.mem_singleton.mp hb
      exact ⟨o, ho, fun v q => by rw [hd] at q; cases q⟩
  keep := by
    rintro i h h' ⟨⟨old, he⟩, ⟨o, ho, r⟩, hne⟩ k
    exact ⟨⟨old, k e (by simp) _ he⟩, ⟨o, k it (by simp) o ho, r⟩, hne⟩
  item := by
    rintro X rfl rfl rfl hc i pins s σ H E I hf ⟨⟨old, he⟩, hit, hne⟩ hlt
    have he0 : e < s.heap.objs.size := Heap.lt_size he
    have hi0 : it < s.heap.objs.size := by
      obtain ⟨_, q, _⟩ := hit
      exact Heap.lt_size q
    refine wpAny_pyNext_enum_itemD (Draws.text (A := X.A.in1) (I.ok.hd hc) it x t) he hit hlt hne (by simp [hne]) fun v h' tk hv ho hit' hT hsz hk => ?_
    obtain ⟨c, u, hcx, rfl⟩ := hv
    refine ⟨_, rfl, wpAny_letOwnedTupleGo_enum (s := { s with heap := h', toks := tk + 1 }) ho fun h'' he' sb => ?_⟩
    have made : h''.get? s.heap.objs.size = some { cls := .type "tuple", data := .seq #[.int i tk, .str ⟨#[c]⟩ u] } := (sb.2 _ (Nat.ne_of_gt he0)).trans hT
    have new : ObjOk X.prog X.w (upd H s.heap.objs.size (.tup [.int (i : Nat), .str ⟨#[c]⟩])) h'' s.heap.objs.size (.tup [.int (i : Nat), .str ⟨#[c]⟩]) :=
      ⟨by show 2 ≤ sizeLine; decide, [.int i tk, .str ⟨#[c]⟩ u], .cons ⟨_, rfl⟩ (.cons ⟨_, rfl⟩ .nil), ⟨_, made, rfl, _, rfl⟩⟩
    have kept : ∀ b o, b ∉ [e, it] → s.heap.get? b = some o → h''.get? b = some o := fun b o hb q => by
      have h1 : b ≠ e := fun z => hb (by simp [z])
      have h2 : b ≠ it := fun z => hb (by simp [z])
      exact (sb.2 b h1).trans (hk b o h1 h2 q)
    refine ⟨.ref s.heap.objs.size, _, I.turnedNew (ch := [e, it]) kept hf (Nat.le_refl _) new, rfl, ⟨_, c, rfl, I.hok.fresh (Nat.le_refl _), hcx, rfl⟩, ⟨⟨.str ⟨#[c]⟩ u, ?_⟩, ?_, hne⟩, fun b hb => ?_⟩
    · have e1 : ((i + 1 : Nat) : Int) = (i : Int) + 1 := by omega
      rw [e1]
      exact he'
    · obtain ⟨o, q, r⟩ := hit'
      exact ⟨o, (sb.2 it (Ne.symm hne)).trans q, r⟩
    · have hb' : b < s.heap.objs.size := by
        rcases List.mem_cons.mp hb with rfl | hb
        · exact he0
        · rw [List.mem_singleton.mp hb]
          exact hi0
      rw [upd_ne (Nat.ne_of_lt hb')]
      exact (hf b hb).1
  done := by
    rintro X rfl rfl rfl hc i pins s σ H E I hf ⟨⟨old, he⟩, hit, hne⟩ hge
    obtain ⟨f0, f1, f2, f3, f4, f5⟩ := hf it (by simp)
    obtain rfl : i = x.cps.size := hge
    exact wpAny_pyNext_enum_endD (Draws.text (A := X.A.in1) (I.ok.hd hc) it x t) he hit fun h' eb => ⟨rfl, I.turned (t' := s.toks) (fun b o hb q => eb b o hb q) f0 f1 f3 f4 f5⟩
  self := fun A i s Q E st h => by
    obtain ⟨⟨_, he⟩, _⟩ := st
    exact wpAny_pyIter_enum he h

def iEnumX (ta : TA) : TI := fun σ H R => ta σ H fun vs H1 => ∃ l : List Nat, vs = [.str (tx l)] ∧ R (ItEX (tx l)) H1
theorem pi_enumX {X : Cx} {e : Expr} {ta : TA} {p pos tpos : Pos} {elts : List Expr} {kk : Nat} (hg : Gl X "enumerate") (hm : X.mg "enumerate" = none) (ha : PA X [e] ta) (hs : starEach [e] X.env = [(false, eval e X.env)] := by rfl) :
    PI X (.Tuple elts kk tpos) (.Call (.Name "enumerate" p) [e] [] pos) (iEnumX ta) := by
  constructor
  intro pins s σ H R I h
  refine Call_ (ld_blt I hg hm boot_enumerate (PyProof.Rows.callWith_type1 (thn (ha.run pos pins s σ H _ I h) fun us s1 hx => ?_) hs rfl))
  obtain ⟨vs, H1, I1, r1, l, rfl, q⟩ := hx
  obtain ⟨u, rfl, t, rfl⟩ := vals1 r1
  refine call_enumerate_str fun h' he hit hsz hk => wpAny_pyIter_enum he ?_
  have I2 : Inv X pins σ H1 { s1 with heap := h' } := I1.kept (t' := s1.toks) hk
  refine ⟨s1.heap.objs.size + 1, [s1.heap.objs.size + 1, s1.heap.objs.size], _, _, H1, rfl, I2, turn_enumX (tx l) t (s1.heap.objs.size + 1) s1.heap.objs.size, ⟨⟨.none, he⟩, hit, Nat.succ_ne_self _⟩, fun b hb => ?_, q⟩
  have hle : s1.heap.objs.size ≤ b := by
    rcases List.mem_cons.mp hb with rfl | hb
    · exact Nat.le_add_right _ _
    · exact Nat.le_of_eq (List.mem_singleton.mp hb).symm
  exact I1.fpOk hle (I1.hok.fresh hle)
theorem rd_iEnumX {ta : TA} {σ : L2.St} {H : Hp} {R : It → Hp → Prop} {l : List Nat} (h : ta σ H fun vs H1 => ∃ l : List Nat, vs = [.str (tx l)] ∧ R (ItEX (tx l)) H1) : iEnumX ta σ H R := h
theorem for_enumX {l : List Nat} {g : TG} {tb : TS} {D : Ends} {σ : L2.St} {H : Hp} (Pv : Nat → L2.St → Hp → Prop) (h0 : Pv 0 σ H)
    (hs : ∀ (i c : Nat) (σ : L2.St) (H : Hp) (T : Addr), l[i]? = some c → Pv i σ H → H T = none → g (.ref T) σ (upd H T (.tup [.int (i : Nat), .str (tx [c])])) fun σ2 H2 => tb { D with nx := Pv (i + 1), ct := Pv (i + 1), bk := D.nx } σ2 H2) (hd : ∀ σ H, Pv l.length σ H → D.nx σ H) :
    ∃ W : Nat → Nat → L2.St → Hp → Prop, (∃ m, W 0 m σ H) ∧ ∀ i m σ H, W i m σ H →
      ((ItEX (tx l)).stop i H ∧ D.nx σ H) ∨ ((ItEX (tx l)).go i H ∧ ∃ N : L2.St → Hp → Prop, (∀ σ' H', N σ' H' → ∃ m', m' < m ∧ W (i + 1) m' σ' H') ∧ ∀ x H', (ItEX (tx l)).yld i H x H' → g x σ H' fun σ2 H2 => tb { D with nx := N, ct := N, bk := D.nx } σ2 H2) := by
  have hsz : (tx l).cps.size = l.length := by simp [tx]
  refine ⟨fun i m σ H => m + i = l.length ∧ Pv i σ H, ⟨l.length, rfl, h0⟩, fun i m σ H h => ?_⟩
  obtain ⟨hm, p⟩ := h
  by_cases hi : i < l.length
  · refine .inr ⟨show i < (tx l).cps.size by rw [hsz]; exact hi, Pv (i + 1), fun σ' H' p' => ⟨m - 1, by omega, by omega, p'⟩, fun x H' hy => ?_⟩
    obtain ⟨T, c, rfl, hT, hc, rfl⟩ := hy
    exact hs i c σ H T (by simpa [tx] using hc) p hT
  · have e : i = l.length := by omega
    subst e
    exact .inl ⟨show l.length = (tx l).cps.size from hsz.symm, hd σ H p⟩
/-! ### x.find(y, 1): the first place -/
theorem occ_stay (s sub : Str) (hi : Nat) : ∀ (l : List Nat) (k f : Nat), (forIn l ((#[k] : Array Nat), f) (PySem.StrLaws.occBody s sub hi 1)).run.fst = #[k]
  | [], k, f => rfl
  | a :: l, k, f => by
    rw [List.forIn_cons]
    unfold PySem.StrLaws.occBody
    rw [if_neg (by simp)]
    exact occ_stay s sub hi l k f
theorem occ_find (s sub : Str) (hi : Nat) : ∀ (l : List Nat) (f : Nat), (∀ i ∈ l, f ≤ i) →
    (forIn l ((#[] : Array Nat), f) (PySem.StrLaws.occBody s sub hi 1)).run.fst.toList = (l.find? fun i => decide (i + sub.length ≤ hi) && Builtin.Str.subAt s sub i).toList
  | [], f, _ => rfl
  | a :: l, f, hf => by
    rw [List.forIn_cons, List.find?_cons]
    have ha : f ≤ a := hf a List.mem_cons_self
    have hl : ∀ i ∈ l, f ≤ i := fun i h => hf i (List.mem_cons_of_mem _ h)
    unfold PySem.StrLaws.occBody
    cases hc : (decide (a + sub.length ≤ hi) && Builtin.Str.subAt s sub a) with
    | true =>
      rw [Bool.and_eq_true, decide_eq_true_eq] at hc
      rw [if_pos ⟨⟨⟨by simp, ha⟩, hc.1⟩, hc.2⟩]
      have := occ_stay s sub hi l a (a + sub.length)
      show (forIn l ((#[] : Array Nat).push a, a + sub.length) (PySem.StrLaws.occBody s sub hi 1)).run.fst.toList = _
      have e : (#[] : Array Nat).push a = #[a] := rfl
      rw [e, this]
      rfl
    | false =>
      have hn : ¬ (((((#[] : Array Nat), f).fst.size < 1 ∧ ((#[] : Array Nat), f).snd ≤ a) ∧ a + sub.length ≤ hi) ∧ Builtin.Str.subAt s sub a = true) := fun h => by
        rw [decide_eq_true h.1.2, h.2] at hc
        cases hc
      rw [if_neg hn]
      exact occ_find s sub hi l f hl
theorem subAt_tx (x y : List Nat) (i : Nat) : Builtin.Str.subAt (tx x) (tx y) i = decide ((x.drop i).take y.length = y) := by
  unfold Builtin.Str.subAt
  rw [Bool.eq_iff_iff, beq_iff_eq, decide_eq_true_eq, ← Array.toList_inj, tx_len]
  simp [tx, List.extract_eq_take_drop]
def rFind1 : V → List V → Hp → VK → Prop := fun v xs H Q => ∃ (x y : List Nat) (k : Nat), v = .str (tx x) ∧ xs = [.str (tx y), .int 1] ∧ 1 ≤ k ∧ k + y.length ≤ x.length ∧ k ≤ x.length ∧ (x.drop k).take y.length = y ∧
  (∀ j, 1 ≤ j → j < k → (x.drop j).take y.length ≠ y) ∧ Q (.int (k : Nat)) H
theorem mt_find1 {X : Cx} : MtR X "str.find" rFind1 := by
  intro pins s σ H v xs u us Q I rx rs h
  obtain ⟨x, y, k, rfl, rfl, h1, h2, h3, h4, h5, q⟩ := h
  refine mt_find3 pins s σ H _ _ u us Q I rx rs ⟨tx x, tx y, 1, rfl, rfl, ?_⟩
  have e : Txt.find3 (tx x) (tx y) 1 = ((k : Nat) : Int) := by
    unfold Txt.find3
    have hlo : fromIndex (tx x).length 1 = 1 := rfl
    rw [hlo, PySem.StrLaws.occ_eq, occ_find _ _ _ _ _ (fun i hi => (List.mem_range'_1.mp hi).1)]
    have hf : (List.range' 1 ((tx x).length + 1 - 1)).find? (fun i => decide (i + (tx y).length ≤ (tx x).length) && Builtin.Str.subAt (tx x) (tx y) i) = some k := by
      rw [List.find?_range'_eq_some]
      rw [tx_len, tx_len]
      refine ⟨?_, ?_, ?_⟩
      · rw [subAt_tx, decide_eq_true h2, decide_eq_true h4]
        rfl
      · rw [List.mem_range'_1]
        omega
      · intro j hj1 hj2
        rw [subAt_tx, decide_eq_false (h5 j hj1 hj2), Bool.and_false]
        rfl
    rw [hf]
    rfl
  rw [e]
  exact q

def rMaxX : List V → Hp → VK → Prop := fun xs H Q => ∃ i j, xs = [.int i, .int j] ∧ Q (.int (if j > i then j else i)) H
theorem call_max2X {X : Cx} (hc : X.calm = true) : CallR X (.builtin "max") rMaxX := call_max2 hc
theorem rd_maxX {H : Hp} {Q : VK} {i j : Int} (q : Q (.int (if j > i then j else i)) H) : rMaxX [.int i, .int j] H Q := ⟨i, j, rfl, q⟩
theorem rd_find1 {H : Hp} {Q : VK} {x y : List Nat} {k : Nat} (h1 : 1 ≤ k) (h2 : k + y.length ≤ x.length) (h3 : (x.drop k).take y.length = y) (h4 : ∀ j, 1 ≤ j → j < k → (x.drop j).take y.length ≠ y) (q : Q (.int (k : Nat)) H) : rFind1 (.str (tx x)) [.str (tx y), .int 1] H Q :=
  ⟨x, y, k, rfl, rfl, h1, h2, by omega, h3, h4, q⟩
theorem rd_reprD {K : PySem.W.Frag} {H : Hp} {Q : VK} {a : Addr} {d : PyData} (h : Dp K H (.ref a) d) (hs : d.showable = true) (hn : d.hasDict = false) (hz : d.depth ≤ 60) (hl : d.shown.length ≤ sizeLine) (q : Q (.str d.shown) H) : rReprD K [.ref a] H Q := ⟨a, d, rfl, h, hs, hn, hz, hl, q⟩
/-! ### how long a shown pair is -/
theorem str_app_len (a b : Str) : (a ++ b).length = a.length + b.length := by
  show (a.cps ++ b.cps).size = _
  rw [Array.size_append]
  rfl
theorem tup2_len (a b : PyData) : (PyData.tuple [a, b]).shown.length ≤ a.shown.length + b.shown.length + 8 := by
  have e : (PyData.tuple [a, b]).shown = ("(" : Str) ++ (a.shown ++ (", " : Str) ++ b.shown) ++ (")" : Str) := by
    simp only [PyData.shown, PyData.shownAll]
    rfl
  have e1 : ("(" : Str).length = 1 := by decide
  have e2 : (", " : Str).length = 2 := by decide
  have e3 : (")" : Str).length = 1 := by decide
  rw [e, str_app_len, str_app_len, str_app_len, str_app_len, e1, e2, e3]
  omega
theorem shown_int_len {i : Int} (h : i.natAbs < 2 ^ 250) : (PyData.int i).shown.length ≤ 1000 := by
  have h1 : i.natAbs.log2 < 250 := PySem.Flt.log2_lt_of (by decide) h
  have h2 := PySem.int_text_length_le (a := i) (k := 250) (by decide) h1
  simp only [PyData.shown]
  show (Str.ofString (toString i)).length ≤ 1000
  rw [PySem.ofString_length]
  omega
theorem shown_str_len {l : List Nat} (h : ∀ c ∈ l, c < 1000) : (PyData.str (tx l)).shown.length ≤ 10 * l.length + 2 := by
  simp only [PyData.shown]
  have := PySem.StrLaws.reprText_len (tx l) (fun c hc => by
    rw [tx_cps] at hc
    have := h c hc
    have e : (1000 : Nat) < 16 ^ 8 := by decide
    omega)
  rw [tx_len] at this
  exact this
end Un

set_option maxHeartbeats 2000000
/-! UnY: own errors as the law uses them: by name, made, read, told apart; zip in a comprehension; repr of any value. -/
namespace Un
open PySem PySem.Spec PyProof.Rows L2
/-- the address of the class of a name -/
def ca (mg : Str → Option Value) (x : Str) : Addr := match mg x with
  | some (.ref C) => C
  | _ => 0
theorem ca_of {mg : Str → Option Value} {x : Str} {C : Addr} (h : mg x = some (.ref C)) : ca mg x = C := by
  unfold ca
  rw [h]
/-- an own error without an __init__, its class at C -/
def Err0 (K : PySem.W.Frag) (mg : Str → Option Value) (x : Str) (C : Addr) : Prop := mg x = some (.ref C) ∧ OxC K C ∧ PySem.W.excIn K C PySem.HandSPX.veTail "ValueError.__new__" = true
/-- one with an __init__ of one field -/
def ErrI (K : PySem.W.Frag) (mg : Str → Option Value) (x q f : Str) (st : Stmt) (C : Addr) : Prop := mg x = some (.ref C) ∧ OxC K C ∧ PySem.W.findIn K (.ref C) f = some none ∧
  ∃ (fI : Addr) (fd : FuncData), PySem.W.findIn K (.ref C) "__init__" = some (some (.ref fI)) ∧ PySem.W.typeIn K (.ref fI) = some (.type "function") ∧ Fun K "__init__" q st fI fd ∧ Binds K fd ["self", f] []
def Mk (P : Program) (w : World) (K : PySem.W.Frag) (mg : Str → Option Value) (base : Heap) (x f : Str) (C : Addr) : Prop := mg x = some (.ref C) ∧ OxC K C ∧ PySem.W.findIn K (.ref C) f = some none ∧
  ∃ (fI : Addr) (fd : FuncData), PySem.W.findIn K (.ref C) "__init__" = some (some (.ref fI)) ∧ PySem.W.typeIn K (.ref fI) = some (.type "function") ∧ FnOk P w K mg base CX0 1 fI fd ["self", f] (SpXI K f) ∧ Binds K fd ["self", f] []
theorem mk_of {P : Program} {w : World} {K : PySem.W.Frag} {mg : Str → Option Value} {base : Heap} {x q f : Str} {st : Stmt} {C : Addr} (e : ErrI K mg x q f st C)
    (h : ∀ fI fd, Fun K "__init__" q st fI fd → FnOk P w K mg base CX0 1 fI fd ["self", f] (SpXI K f)) : Mk P w K mg base x f C := by
  obtain ⟨g, o, n, fI, fd, i, t, F, b⟩ := e
  exact ⟨g, o, n, fI, fd, i, t, h fI fd F, b⟩
section
variable {X : Cx} {x f : Str} {C : Addr} {e : Expr} {te : TE} {p pos : Pos}
theorem pe_cls (hm : X.mg x = some (.ref C)) (hg : Gl X x) (hdb : (x == ("__debug__" : Str)) = false := by decide) : PE X (.Name x pos) (tC (.ref C)) := pe_glob hg hm rfl hdb
theorem pe_gstr {z : Str} (c : ∃ t, X.mg x = some (.str z t)) (l : List Nat) (h : z = tx l) (hg : Gl X x) (hdb : (x == ("__debug__" : Str)) = false := by decide) : PE X (.Name x pos) (tC (.str (tx l))) := by
  obtain ⟨t, c⟩ := c
  exact pe_glob hg c ⟨t, by rw [h]⟩ hdb
theorem pe_gint {i : Int} (c : ∃ t, X.mg x = some (.int i t)) (hg : Gl X x) (hdb : (x == ("__debug__" : Str)) = false := by decide) : PE X (.Name x pos) (tC (.int i)) := by
  obtain ⟨t, c⟩ := c
  exact pe_glob hg c ⟨t, rfl⟩ hdb
theorem pe_err0 (m : Err0 X.K X.mg x C) (hg : Gl X x) (hdb : (x == ("__debug__" : Str)) = false := by decide) : PE X (.Call (.Name x p) [] [] pos) (tMkN C) := pe_mkN F.excBase_ValueError m.2.2 m.1 m.2.1.kC hg hdb
theorem pe_errI (m : Mk X.prog X.w X.K X.mg X.base x f C) (hr : Room 2 X.A) (hg : Gl X x) (ha : PE X e te) (hdb : (x == ("__debug__" : Str)) = false := by decide)
    (he : starEach (e :: []) X.env = (false, eval e X.env) :: starEach [] X.env := by rfl) (hpl : (backTo pos (starEach [] X.env)).any (·.1) = false := by rfl) : PE X (.Call (.Name x p) [e] [] pos) (tMkX C f te) := by
  obtain ⟨g, o, n, fI, fd, i, t, F, b⟩ := m
  exact pe_mkX o i t n F hr b pass0 hg g ha hdb he hpl
end
theorem pmk_err0 {X : Cx} {x : Str} {C : Addr} {p pos : Pos} (m : Err0 X.K X.mg x C) (hg : Gl X x) (hdb : (x == ("__debug__" : Str)) = false := by decide) : PMk X (.Call (.Name x p) [] [] pos) (fun _ H Q => Q (.ref C) none H) := by
  intro pins s σ H Q I h
  refine wpAny_Call_Name_kw (ld_glob I hg m.1 ?_ hdb)
  refine PySem.W.callWith_K0 (K := X.K) (I.tok _).kIn m.2.1.kC ?_
  show wpAny _ _ (call (.ref C) []) _ _ _
  obtain ⟨bm, N, nm, qn, bs, hdct, sn, sub, ab, col, dd, k0, k1, k2, k3, k5, mN, hC, hN, hni, T⟩ := exc_obj (I.tok _).kIn m.2.2
  refine wpAny_call_exc_subT F.excBase_ValueError T hC hN hni (fun h' e hm => ?_) (by show 0 ≤ sizeLine; omega)
  exact L2.mk_of I hm (raises_own m.2.1.xf.exC m.2.1.ty) h (I.hok.gone hm.new)
/-- a def that may raise, under its name -/
def ClX (P : Program) (w : World) (K : PySem.W.Frag) (mg : Str → Option Value) (base : Heap) (nm : Str) (ps : List Str) (k : Nat) (sp : Sp) : Prop :=
  ∃ (f : Addr) (fd : FuncData), mg nm = some (.ref f) ∧ FnOk P w K mg base (L2.CX P w) k f fd ps sp ∧ PySem.W.keepIn K (.ref f) = true ∧ Binds K fd ps []
theorem clX_of {P : Program} {w : World} {K : PySem.W.Frag} {mg : Str → Option Value} {base : Heap} {nm : Str} {st : Stmt} {ps : List Str} {k : Nat} {sp : Sp}
    (a : At K mg nm st ps) (h : ∀ f fd, Fun K nm nm st f fd → FnOk P w K mg base (L2.CX P w) k f fd ps sp) : ClX P w K mg base nm ps k sp := by
  obtain ⟨f, fd, F, m, b⟩ := a
  exact ⟨f, fd, m, h f fd F, F.kp, b⟩
theorem pe_clX {X : Cx} {nm : Str} {ps : List Str} {k : Nat} {sp : Sp} {e : Expr} {es : List Expr} {t : TA} {p pos : Pos} {W : WX} (c : ClX X.prog X.w X.K X.mg X.base nm ps k sp) (hr : Room k X.A) (hg : Gl X nm) (tk : Takes X W) (ha : PA X (e :: es) t)
    (hdb : (nm == ("__debug__" : Str)) = false := by decide) (he : starEach (e :: es) X.env = (false, eval e X.env) :: starEach es X.env := by rfl) (hpl : (backTo pos (starEach es X.env)).any (·.1) = false := by rfl) :
    PE X (.Call (.Name nm p) (e :: es) [] pos) (tCallS sp (WE W) t) := by
  obtain ⟨f, fd, m, F, kp, b⟩ := c
  exact pe_callS F hr hg m kp b (fun σ => passAt tk σ) ha hdb he hpl
/-- an error stands at a: its class, its one field -/
def ErrAt (H : Hp) (a C : Addr) (f : Str) (v : V) : Prop := ∃ dx, H a = some (exo a C (some dx)) ∧ H dx = some (exd dx [(f, v)])
def IsErr (H : Hp) (a C : Addr) : Prop := ∃ d, H a = some (exo a C d) ∧ ∀ dx, d = some dx → ∃ fs, H dx = some (exd dx fs)
theorem ErrAt.is {H : Hp} {a C : Addr} {f : Str} {v : V} (h : ErrAt H a C f v) : IsErr H a C := by
  obtain ⟨dx, h1, h2⟩ := h
  refine ⟨some dx, h1, fun d e => ?_⟩
  cases e
  exact ⟨_, h2⟩
theorem IsErr.same {H H' : Hp} {a C : Addr} (h : IsErr H a C) (s : Same H H') : IsErr H' a C := by
  obtain ⟨d, h1, h2⟩ := h
  refine ⟨d, s _ _ h1, fun dx e => ?_⟩
  obtain ⟨fs, h3⟩ := h2 dx e
  exact ⟨fs, s _ _ h3⟩
theorem ErrAt.same {H H' : Hp} {a C : Addr} {f : Str} {v : V} (h : ErrAt H a C f v) (s : Same H H') : ErrAt H' a C f v := by
  obtain ⟨dx, h1, h2⟩ := h
  exact ⟨dx, s _ _ h1, s _ _ h2⟩
section
variable {K : PySem.W.Frag} {σ : L2.St} {H : Hp} {Q : VK} {te : TE} {ta : TA} {C : Addr} {f n : Str} {R : It → Hp → Prop}
theorem rd_mkN (q : ∀ a H', H a = none → Same H H' → IsErr H' a C → Q (.ref a) H') : tMkN C σ H Q := fun a ha => q a _ ha (same_upd ha) ⟨none, upd_same, fun _ e => by cases e⟩
theorem rd_mkX (h : te σ H fun v H1 => ∀ a dx, H1 a = none → H1 dx = none → dx ≠ a → Q (.ref a) (upd (upd (upd H1 a (exo a C none)) dx (exd dx [(f, v)])) a (exo a C (some dx)))) : tMkX C f te σ H Q := h
theorem mkX_end {v : V} (q : ∀ a H', H a = none → Same H H' → ErrAt H' a C f v → Q (.ref a) H') : ∀ a dx, H a = none → H dx = none → dx ≠ a → Q (.ref a) (upd (upd (upd H a (exo a C none)) dx (exd dx [(f, v)])) a (exo a C (some dx))) :=
  fun a dx ha hd hne => q a _ ha (same_mut (same_mut (same_upd ha) hd) ha) ⟨dx, upd_same, by rw [upd_ne hne, upd_same]⟩
theorem rd_xfl (h : te σ H fun x H1 => ∃ (a C d : Addr) (fs : List (Str × V)) (v : V), x = .ref a ∧ XfC K C ∧ PySem.W.findIn K (.ref C) n = some none ∧ H1 a = some (exo a C (some d)) ∧ H1 d = some (exd d fs) ∧ fs.lookup n = some v ∧ Q v H1) : tXfl K n te σ H Q := h
theorem xfl_end {a : Addr} {v : V} (T : OxC K C) (hno : PySem.W.findIn K (.ref C) n = some none) (e : ErrAt H a C n v) (q : Q v H) :
    ∃ (b C' d : Addr) (fs : List (Str × V)) (v' : V), V.ref a = .ref b ∧ XfC K C' ∧ PySem.W.findIn K (.ref C') n = some none ∧ H b = some (exo b C' (some d)) ∧ H d = some (exd d fs) ∧ fs.lookup n = some v' ∧ Q v' H := by
  obtain ⟨dx, h1, h2⟩ := e
  exact ⟨a, C, dx, _, v, rfl, T.xf, hno, h1, h2, by simp [List.lookup], q⟩
theorem rd_isX {a D : Addr} {b : Bool} (e : IsErr H a C) (T : OxC K C) (k : PySem.W.kitOne K (.ref C) (.ref D) = some b) (q : Q (.bl b) H) : rIsX K [.ref a, .ref D] H Q := by
  obtain ⟨d, h1, h2⟩ := e
  exact ⟨a, C, d, .ref D, .ref D, b, rfl, h1, h2, T.is, .own D, k, q⟩
theorem rd_isXT {a : Addr} {T' : String} {b : Bool} (e : IsErr H a C) (T : OxC K C) (k : PySem.W.kitOne K (.ref C) (.type T') = some b) (q : Q (.bl b) H) : rIsX K [.ref a, .ty T'] H Q := by
  obtain ⟨d, h1, h2⟩ := e
  exact ⟨a, C, d, .ty T', .type T', b, rfl, h1, h2, T.is, .ty T', k, q⟩
theorem rd_isi {x : V} {t : Value} {b : Bool} (ty : TyX K H x t) (k : PySem.W.kitOne K t (.type "str") = some b) (q : Q (.bl b) H) : rIsi K [x, .ty "str"] H Q := ⟨x, .ty "str", t, .type "str", b, rfl, .ty _, ty, k, q⟩
theorem rd_clX {sp : Sp} {E : L2.St → XK} {t : TA} (h : t σ H fun vs H1 => sp vs H1 Q (E σ)) : tCallS sp E t σ H Q := h
theorem rd_notB {a b : Bool} (q : Q (.bl (!decide (a = b))) H) : rNotB (.bl a) (.bl b) H Q := ⟨a, b, rfl, rfl, q⟩
theorem rd_chain {r r' : R2} {ta tb tc : TE} (h : ta σ H fun x H1 => tb σ H1 fun y H2 => r x y H2 fun z H3 => ∃ k, z = .bl k ∧ (if k = true then tc σ H3 fun w' H4 => r' y w' H4 Q else Q (.bl false) H3)) : tChain r r' ta tb tc σ H Q := h
theorem rd_mkN0 (h : ∀ a, H a = none → Q (.ref a) (upd H a (exo a C none))) : tMkN C σ H Q := h
theorem rd_iEnum (h : ta σ H fun vs H1 => ∃ a xs, vs = [.ref a] ∧ SqL K H1 a xs ∧ R (Ite K a) H1) : iEnum K ta σ H R := h
theorem rd_par3 {i j l : Nat} {D : Ends} (h : ta σ H fun vs H1 => ∃ v w u, vs = [v, w, u] ∧ D.nx (((σ.set i (some v)).set j (some w)).set l (some u)) H1) : tPar3 i j l ta D σ H := h
theorem rd_three {P : V → V → V → Prop} {a b c : V} (q : P a b c) : ∃ v w u, [a, b, c] = [v, w, u] ∧ P v w u := ⟨a, b, c, rfl, q⟩
theorem rd_iZipS (h : ta σ H fun vs H1 => ∃ x y, vs = [.str x, .str y] ∧ R (ItzS x y) H1) : iZipS ta σ H R := h
theorem rd_zipS2 {x y : Str} {P : Str → Str → Prop} (q : P x y) : ∃ x' y', [V.str x, V.str y] = [.str x', .str y'] ∧ P x' y' := ⟨x, y, rfl, q⟩
end
/-- a comprehension over zip of two texts -/
theorem lc_zip {l m : List Nat} {g : TG} {tt : TT} {te : TE} {vs : List Nat} {σ : L2.St} {H1 : Hp} {D : Addr} {Qd : Hp → Prop} (Pv : Nat → Hp → Prop) (h0 : Pv 0 (upd H1 D (.lst [])))
    (hs : ∀ (i c d : Nat) (T : Addr) (H : Hp), l[i]? = some c → m[i]? = some d → Pv i H → H T = none → g (.ref T) (wipe σ vs) (upd H T (.tup [.str (tx [c]), .str (tx [d])])) fun σ2 H2 => wipe σ2 vs = wipe σ vs ∧ tt σ2 H2 fun b H3 =>
      if b = true then te σ2 H3 fun y H4 => ∃ acc, H4 D = some (.lst acc) ∧ acc.length < sizeLine ∧ Pv (i + 1) (upd H4 D (.lst (acc ++ [y]))) else Pv (i + 1) H3) (hd : ∀ H, Pv (min l.length m.length) H → Qd H) :
    ∃ W : Nat → Nat → Hp → Prop, (∃ n, W 0 n (upd H1 D (.lst []))) ∧ ∀ i n H, W i n H →
      ((ItzS (tx l) (tx m)).stop i H ∧ Qd H) ∨ ((ItzS (tx l) (tx m)).go i H ∧ ∃ Nx : Hp → Prop, (∀ H', Nx H' → ∃ m', m' < n ∧ W (i + 1) m' H') ∧ ∀ x H', (ItzS (tx l) (tx m)).yld i H x H' → g x (wipe σ vs) H' fun σ2 H2 => wipe σ2 vs = wipe σ vs ∧ tt σ2 H2 fun b H3 =>
        if b = true then te σ2 H3 fun y H4 => ∃ acc, H4 D = some (.lst acc) ∧ acc.length < sizeLine ∧ Nx (upd H4 D (.lst (acc ++ [y]))) else Nx H3) := by
  have e1 : (tx l).cps.size = l.length := by simp [tx]
  have e2 : (tx m).cps.size = m.length := by simp [tx]
  refine ⟨fun i n H => n = min l.length m.length - i ∧ i ≤ min l.length m.length ∧ Pv i H, ⟨_, rfl, Nat.zero_le _, h0⟩, ?_⟩
  rintro i n H ⟨rfl, hi, p⟩
  by_cases hlt : i < min l.length m.length
  · refine .inr ⟨⟨by omega, by omega⟩, Pv (i + 1), fun H' p' => ⟨min l.length m.length - (i + 1), by omega, rfl, hlt, p'⟩, ?_⟩
    rintro x H' ⟨T, c, d, rfl, hT, rfl, hc, hd'⟩
    exact hs i c d T H (by simpa [tx] using hc) (by simpa [tx] using hd') p hT
  · have e : i = min l.length m.length := by omega
    subst e
    exact .inl ⟨⟨by omega, by omega, by omega⟩, hd H p⟩

/-! ### repr of any value -/
/-- how a value is shown, and that it can be -/
structure Good (d : PyData) : Prop where
  s : d.showable = true
  n : d.hasDict = false
  z : d.depth ≤ 20
  l : d.shown.length ≤ 100000
def rReprA (K : PySem.W.Frag) : List V → Hp → VK → Prop := fun xs H Q => ∃ (x : V) (d : PyData), xs = [x] ∧ Dp K H x d ∧ Good d ∧ Q (.str d.shown) H
theorem call_reprA {X : Cx} {k : Nat} (hgd : X.A.guards = some []) (hr : Room k X.A) : CallR X (.builtin "repr") (rReprA X.K) := by
  intro pins s σ H xs us Q I r h
  obtain ⟨x, d, rfl, hd, g, q⟩ := h
  have hsz : d.shown.length ≤ sizeLine := Nat.le_trans g.l (by decide)
  have base : scalR x → reprS x = d.shown → wpAny (model X.prog X.w) X.A (call (.builtin "repr") us) (EP X pins σ Q) X.xe s := fun h1 h2 => call_reprS pins s σ H [x] us Q I r ⟨x, rfl, h1, by rw [h2]; exact q⟩
  cases hd with
  | non => exact base trivial (by simp only [PyData.shown]; rfl)
  | bl b => exact base trivial (by simp only [PyData.shown]; rfl)
  | int i => exact base (by have h0 := g.s; simp only [PyData.showable, decide_eq_true_eq] at h0; exact h0) (by simp only [PyData.shown]; rfl)
  | str z => exact base (by have := hsz; simp only [PyData.shown] at this; exact this) (by simp only [PyData.shown]; rfl)
  | lst h1 h2 => exact call_reprD hgd hr pins s σ H _ us Q I r ⟨_, _, rfl, .lst h1 h2, g.s, g.n, by have := g.z; omega, hsz, q⟩
  | tup h1 h2 => exact call_reprD hgd hr pins s σ H _ us Q I r ⟨_, _, rfl, .tup h1 h2, g.s, g.n, by have := g.z; omega, hsz, q⟩
theorem rd_reprA {K : PySem.W.Frag} {H : Hp} {Q : VK} {x : V} {d : PyData} (h : Dp K H x d) (g : Good d) (q : Q (.str d.shown) H) : rReprA K [x] H Q := ⟨x, d, rfl, h, g, q⟩
theorem sqL_same {K : PySem.W.Frag} {H H' : Hp} {a : Addr} {ys : List V} (h : SqL K H a ys) (s : Same H H') : SqL K H' a ys := by
  rcases h with (h | ⟨o, h⟩) | h
  · exact .inl (.inl (s _ _ h))
  · exact .inl (.inr ⟨o, s _ _ h⟩)
  · exact .inr h
theorem sqT_same {K : PySem.W.Frag} {H H' : Hp} {a : Addr} {ys : List V} (h : SqT K H a ys) (s : Same H H') : SqT K H' a ys := by
  rcases h with (h | ⟨o, h⟩) | h
  · exact .inl (.inl (s _ _ h))
  · exact .inl (.inr ⟨o, s _ _ h⟩)
  · exact .inr h
mutual
theorem Dp.same {K : PySem.W.Frag} {H H' : Hp} (s : Same H H') : ∀ {v : V} {d : PyData}, Dp K H v d → Dp K H' v d
  | _, _, .non => .non
  | _, _, .bl b => .bl b
  | _, _, .int i => .int i
  | _, _, .str x => .str x
  | _, _, .lst h1 h2 => .lst (sqL_same h1 s) (DpAll.same s h2)
  | _, _, .tup h1 h2 => .tup (sqT_same h1 s) (DpAll.same s h2)
theorem DpAll.same {K : PySem.W.Frag} {H H' : Hp} (s : Same H H') : ∀ {vs : List V} {ds : List PyData}, DpAll K H vs ds → DpAll K H' vs ds
  | _, _, .nil => .nil
  | _, _, .cons h1 h2 => .cons (Dp.same s h1) (DpAll.same s h2)
end
end Un

/-! UnNil: xs == [] and xs != [], whatever stands in xs. -/
namespace Un
open PySem PySem.Spec PyProof.Rows L2
def rEqE (K : PySem.W.Frag) : R2 := fun x y H Q => ∃ a b xs, x = .ref a ∧ y = .ref b ∧ SqL K H a xs ∧ SqL K H b [] ∧ Q (.bl xs.isEmpty) H
def rNeE (K : PySem.W.Frag) : R2 := fun x y H Q => ∃ a b xs, x = .ref a ∧ y = .ref b ∧ SqL K H a xs ∧ SqL K H b [] ∧ Q (.bl (!xs.isEmpty)) H
section
variable {X : Cx}
theorem op_eqE (hu : X.A.units + 64 < cLine) : OpR X (compareOp .Eq) (rEqE X.K) := by
  intro pins s σ H x y v u Q I rx ry h
  obtain ⟨a, b, xs, rfl, rfl, ha, hb, q⟩ := h
  cases (show v = Value.ref a from rx)
  cases (show u = Value.ref b from ry)
  obtain ⟨us, r1, p1, _⟩ := I.list ha
  obtain ⟨ws, r2, p2, _⟩ := I.list hb
  cases r2
  cases r1 with
  | nil => exact (SeqAt.RcAt.lists (e := fun _ => true) p1.isList p2.isList rfl (by omega) (fun j h1 => absurd h1 (Nat.not_lt_zero j))) _ _ _ _ ⟨.bl true, H, I, rfl, q⟩
  | cons r rr => exact (SeqAt.RcAt.lists_lengths p1.isList p2.isList (by simp) (by omega)) _ _ _ _ ⟨.bl false, H, I, rfl, q⟩
theorem op_neE (hu : X.A.units + 64 < cLine) : OpR X (compareOp .NotEq) (rNeE X.K) := by
  intro pins s σ H x y v u Q I rx ry h
  obtain ⟨a, b, xs, rfl, rfl, ha, hb, q⟩ := h
  cases (show v = Value.ref a from rx)
  cases (show u = Value.ref b from ry)
  obtain ⟨us, r1, p1, _⟩ := I.list ha
  obtain ⟨ws, r2, p2, _⟩ := I.list hb
  cases r2
  cases r1 with
  | nil => exact (SeqAt.RcNeAt.lists (e := fun _ => true) p1.isList p2.isList rfl (by omega) (fun j h1 => absurd h1 (Nat.not_lt_zero j))) _ _ _ _ ⟨.bl false, H, I, rfl, q⟩
  | cons r rr => exact (SeqAt.RcNeAt.lists_lengths p1.isList p2.isList (by simp) (by omega)) _ _ _ _ ⟨.bl true, H, I, rfl, q⟩
end
section
variable {K : PySem.W.Frag} {H : Hp} {Q : VK} {p e : Addr} {xs : List V}
theorem rd_eqE (h1 : SqL K H p xs) (h2 : SqL K H e []) (q : Q (.bl xs.isEmpty) H) : rEqE K (.ref p) (.ref e) H Q := ⟨p, e, xs, rfl, rfl, h1, h2, q⟩
theorem rd_neE (h1 : SqL K H p xs) (h2 : SqL K H e []) (q : Q (.bl (!xs.isEmpty)) H) : rNeE K (.ref p) (.ref e) H Q := ⟨p, e, xs, rfl, rfl, h1, h2, q⟩
end
end Un

/-! UnK: what the end of a proof asks of own exception classes, one Bool a class. -/
namespace Un
open PySem PySem.Spec PyProof.Rows L2
def clB (K : PySem.W.Frag) (C : Addr) : Bool :=
  decide (PySem.W.findIn K (.ref C) "__setattr__" = some (some (.builtin "object.__setattr__"))) && (PySem.W.keepIn K (.ref C) && (xfB K C &&
  (decide (PySem.W.findIn K (.ref C) "__class__" = some (some (.builtin "object.__class__"))) && (decide (PySem.W.specialIn K (.builtin "object.__class__") "__get__" = some (some (.builtin "getset_descriptor.__get__"))) &&
  (decide (PySem.W.takesIn K (.builtin "object.__class__") = some true) && (decide (PySem.W.mroIn K C (.type "object") = some true) && (decide (PySem.W.typeIn K (.ref C) = some (.type "type")) && decide (PySem.W.exmOne K (.ref C) (.ref C) = some true))))))))
section
variable {K : PySem.W.Frag} {C N : Addr} {nm q : Str} {bs bm : List Value} {sn : List Str} {sub : List Value} {ab : Bool} {col : Option Bool} {dd : Option Addr} {k0 k1 k2 k3 k5 : Option Value} {newId : String}
theorem oxc_of (cls : ∃ nm q N bs bm sn sub ab col dd k0 k1 k2 k3 k5 B newId initId bmB, K.lookup C = some (excClassObj nm q C N bs bm true sn sub ab col dd k0 k1 k2 k3 k5 newId) ∧ ExcBaseFacts B newId initId bmB ∧ PySem.OXX.Beh B bm ∧ ∀ self, refuseLoop self "__setattr__" (.ref C :: bm) = pure ())
    (b : clB K C = true) : OxC K C := by
  obtain ⟨h1, b⟩ := Bool.and_eq_true_iff.mp b
  obtain ⟨h2, b⟩ := Bool.and_eq_true_iff.mp b
  obtain ⟨h3, b⟩ := Bool.and_eq_true_iff.mp b
  obtain ⟨h4, b⟩ := Bool.and_eq_true_iff.mp b
  obtain ⟨h5, b⟩ := Bool.and_eq_true_iff.mp b
  obtain ⟨h6, b⟩ := Bool.and_eq_true_iff.mp b
  obtain ⟨h7, b⟩ := Bool.and_eq_true_iff.mp b
  obtain ⟨h8, h9⟩ := Bool.and_eq_true_iff.mp b
  have x := xfB_ok h3
  exact ⟨cls, of_decide_eq_true h1, h2, x, ⟨x.ga, x.gg, x.exC, x.hdC, of_decide_eq_true h4, of_decide_eq_true h5, of_decide_eq_true h6, of_decide_eq_true h7⟩, of_decide_eq_true h8, of_decide_eq_true h9⟩
theorem oxc_ve (xL : K.lookup C = some (excClassObj nm q C N bs [.type "ValueError", .type "Exception", .type "BaseException", .type "object"] true sn sub ab col dd k0 k1 k2 k3 k5 "ValueError.__new__")) (b : clB K C = true) : OxC K C :=
  oxc_of ⟨nm, q, N, bs, _, sn, sub, ab, col, dd, k0, k1, k2, k3, k5, _, _, _, _, xL, PySem.F.excBase_ValueError, ⟨by decide +kernel, by decide +kernel, by decide +kernel, by decide +kernel⟩, fun self => by rw [refuseLoop_ref]; exact F.store_ValueError.passes self⟩ b
theorem oxc_vs {U : Addr} (xL : K.lookup C = some (excClassObj nm q C N bs [.ref U, .type "ValueError", .type "Exception", .type "BaseException", .type "object"] true sn sub ab col dd k0 k1 k2 k3 k5 "ValueError.__new__")) (b : clB K C = true) : OxC K C :=
  oxc_of ⟨nm, q, N, bs, _, sn, sub, ab, col, dd, k0, k1, k2, k3, k5, _, _, _, _, xL, PySem.F.excBase_ValueError, ⟨by rfl, by rfl, by rfl, by rfl⟩, fun self => by rw [refuseLoop_ref, refuseLoop_ref]; exact F.store_ValueError.passes self⟩ b
theorem oxc_ke (xL : K.lookup C = some (excClassObj nm q C N bs [.type "KeyError", .type "LookupError", .type "Exception", .type "BaseException", .type "object"] true sn sub ab col dd k0 k1 k2 k3 k5 "LookupError.__new__")) (b : clB K C = true) : OxC K C :=
  oxc_of ⟨nm, q, N, bs, _, sn, sub, ab, col, dd, k0, k1, k2, k3, k5, _, _, _, _, xL, PySem.F.excBase_LookupError, ⟨by decide +kernel, by decide +kernel, by decide +kernel, by decide +kernel⟩, fun self => by rw [refuseLoop_ref]; kernel_rfl⟩ b
end
end Un

local macro_rules | `(tactic| walk_at "rd") => `(tactic| first
  | with_reducible refine' Un.rd_seq ?_
  | with_reducible refine' Un.rd_asg ?_
  | with_reducible refine' Un.rd_gname ?_
  | ((with_reducible refine' Un.rd_var ?k1 ?_); (case k1 => rfl))
  | with_reducible refine' Un.rd_c ?_
  | with_reducible refine' Un.rd_op ?_
  | with_reducible refine' Un.rd_I0 ?_
  | with_reducible refine' Un.rd_test ?_
  | with_reducible refine' Un.rd_bl ?_
  | with_reducible refine' Un.rd_ifS ?_
  | with_reducible refine' Un.rd_call ?_
  | with_reducible refine' Un.rd_cons ?_
  | with_reducible refine' Un.rd_nil ?_
  | with_reducible refine' Un.rd_ret ?_
  | with_reducible refine' Un.rd_retN ?_
  | with_reducible refine' Un.rd_drop ?_
  | with_reducible refine' Un.rd_next ?_
  | with_reducible refine' Un.rd_break ?_
  | with_reducible refine' Un.rd_cont ?_
  | with_reducible refine' Un.rd_cb ?_
  | with_reducible refine' Un.rd_bm ?_
  | with_reducible refine' Un.rd_bm0 ?_
  | with_reducible refine' Un.rd_tyS ?_
  | with_reducible refine' Un.rd_lst ?_
  | with_reducible refine' Un.rd_tup ?_
  | with_reducible refine' Un.rd_sl ?_
  | with_reducible refine' Un.rd_part ?_
  | with_reducible refine' Un.rd_some ?_
  | with_reducible refine' Un.rd_nopart ?_
  | with_reducible refine' Un.rd_un ?_
  | with_reducible refine' Un.rd_U ?_
  | with_reducible refine' Un.rd_B ?_
  | with_reducible refine' Un.rd_and ?_
  | with_reducible refine' Un.rd_or ?_
  | with_reducible refine' Un.rd_not ?_
  | with_reducible refine' Un.rd_andV ?_
  | with_reducible refine' Un.rd_orV ?_
  | with_reducible refine' Un.rd_notV ?_
  | with_reducible refine' Un.rd_if ?_
  | with_reducible refine' Un.rd_gsub ?_
  | with_reducible refine' Un.rd_gnil ?_
  | with_reducible refine' Un.rd_gcons ?_
  | with_reducible refine' Un.rd_two ?_
  | with_reducible refine' Un.rd_ltX ?_
  | with_reducible refine' Un.rd_inX ?_
  | ((with_reducible refine' Un.rd_eq ?k1 ?_); (case k1 => rfl))
  | ((with_reducible refine' Un.rd_ne ?k1 ?_); (case k1 => rfl))
  | with_reducible refine' Un.rd_intI ?_
  | with_reducible refine' Un.rd_intB ?_
  | with_reducible refine' Un.rd_strS ?_
  | with_reducible refine' Un.rd_strE ?_
  | with_reducible refine' Un.rd_one ?_
  | with_reducible refine' Un.rd_par ?_
  | with_reducible refine' Un.rd_revL ?_
  | with_reducible refine' Un.rd_lc ?_
  | with_reducible refine' Un.rd_iList ?_
  | with_reducible refine' Un.rd_iStr ?_
  | with_reducible refine' Un.rd_iTup ?_
  | with_reducible refine' Un.rd_for ?_
  | with_reducible refine' Un.rd_rng1 ?_
  | with_reducible refine' Un.rd_rng2 ?_
  | with_reducible refine' Un.rd_yes ?_
  | with_reducible refine' Un.rd_startX ?_
  | with_reducible refine' Un.rd_leX ?_
  | with_reducible refine' Un.rd_isN1 ?_
  | with_reducible refine' Un.rd_notN1 ?_
  | with_reducible refine' Un.rd_maxX ?_
  | with_reducible refine' Un.rd_iEnumX (l := []) ?_)
local macro_rules | `(tactic| walk_at "rds") => `(tactic| repeat walk_at "rd")

local macro_rules | `(tactic| walk_at "rd") => `(tactic| first
  | with_reducible refine' Un.rd_mkX ?_
  | with_reducible refine' Un.rd_xfl ?_
  | with_reducible refine' Un.rd_clX ?_
  | with_reducible refine' Un.rd_iZipS ?_
  | with_reducible refine' Un.rd_chain ?_
  | with_reducible refine' Un.rd_zipS2 ?_
  | with_reducible refine' Un.rd_mkN0 ?_
  | with_reducible refine' Un.rd_iEnum ?_
  | with_reducible refine' Un.rd_par3 ?_
  | with_reducible refine' Un.rd_three ?_)
namespace Zk01
open PySem PySem.Spec PyProof.Rows L2 Un
def topS (i : Nat) : Stmt := PySem.Challenge.pw_undername_k01_errors_and_letters.main.body.getD i (.Pass ⟨0, 0, 0, 0⟩)
abbrev s_check_letters : Stmt := topS 19
abbrev n_check_letters : List Str := ["letters"]
theorem sc_check_letters : FnScope n_check_letters ["letters"] (defScope s_check_letters) := ⟨rfl, rfl, rfl, by decide +kernel, rfl, by decide +kernel, by decide +kernel⟩
abbrev s__are_letters : Stmt := topS 20
abbrev n__are_letters : List Str := ["value"]
theorem sc__are_letters : FnScope n__are_letters ["value"] (defScope s__are_letters) := ⟨rfl, rfl, rfl, by decide +kernel, rfl, by decide +kernel, by decide +kernel⟩
abbrev s__consists_of : Stmt := topS 21
abbrev n__consists_of : List Str := ["characters", "text", "character"]
theorem sc__consists_of : FnScope n__consists_of ["characters", "text"] (defScope s__consists_of) := ⟨rfl, rfl, rfl, by decide +kernel, rfl, by decide +kernel, by decide +kernel⟩
abbrev s__ascends : Stmt := topS 22
abbrev n__ascends : List Str := ["text", "one", "other"]
theorem sc__ascends : FnScope n__ascends ["text"] (defScope s__ascends) := ⟨rfl, rfl, rfl, by decide +kernel, rfl, by decide +kernel, by decide +kernel⟩
abbrev s_is_text : Stmt := topS 23
abbrev n_is_text : List Str := ["letters", "value"]
theorem sc_is_text : FnScope n_is_text ["letters", "value"] (defScope s_is_text) := ⟨rfl, rfl, rfl, by decide +kernel, rfl, by decide +kernel, by decide +kernel⟩
abbrev s__law_deal : Stmt := topS 25
abbrev n__law_deal : List Str := ["_law_script", "_law_base", "_law_cell", "_law_cells", "_law_mixed"]
theorem sc__law_deal : FnScope n__law_deal ["_law_script", "_law_base"] (defScope s__law_deal) := ⟨rfl, rfl, rfl, by decide +kernel, rfl, by decide +kernel, by decide +kernel⟩
abbrev s__law_draw : Stmt := topS 26
abbrev n__law_draw : List Str := ["_law_deal_here", "_law_many", "_law_left"]
theorem sc__law_draw : FnScope n__law_draw ["_law_deal_here", "_law_many"] (defScope s__law_draw) := ⟨rfl, rfl, rfl, by decide +kernel, rfl, by decide +kernel, by decide +kernel⟩
abbrev s__law_pick : Stmt := topS 27
abbrev n__law_pick : List Str := ["_law_deal_here", "_law_some"]
theorem sc__law_pick : FnScope n__law_pick ["_law_deal_here", "_law_some"] (defScope s__law_pick) := ⟨rfl, rfl, rfl, by decide +kernel, rfl, by decide +kernel, by decide +kernel⟩
abbrev s__law_letters : Stmt := topS 28
abbrev n__law_letters : List Str := ["_law_deal_here", "_law_many", "_law_signs", "_law_found", "_law_turn", "_law_sign"]
theorem sc__law_letters : FnScope n__law_letters ["_law_deal_here", "_law_many"] (defScope s__law_letters) := ⟨rfl, rfl, rfl, by decide +kernel, rfl, by decide +kernel, by decide +kernel⟩
abbrev s__law_word : Stmt := topS 29
abbrev n__law_word : List Str := ["_law_deal_here", "_law_letters_here", "_law_most", "_law_k"]
theorem sc__law_word : FnScope n__law_word ["_law_deal_here", "_law_letters_here", "_law_most"] (defScope s__law_word) := ⟨rfl, rfl, rfl, by decide +kernel, rfl, by decide +kernel, by decide +kernel⟩
abbrev s__law_value : Stmt := topS 30
abbrev n__law_value : List Str := ["_law_deal_here", "_law_some"]
theorem sc__law_value : FnScope n__law_value ["_law_deal_here"] (defScope s__law_value) := ⟨rfl, rfl, rfl, by decide +kernel, rfl, by decide +kernel, by decide +kernel⟩
abbrev s__law_kinds : Stmt := topS 31
abbrev n__law_kinds : List Str := ["_law_error", "_law_found"]
theorem sc__law_kinds : FnScope n__law_kinds ["_law_error"] (defScope s__law_kinds) := ⟨rfl, rfl, rfl, by decide +kernel, rfl, by decide +kernel, by decide +kernel⟩
abbrev s__law_errors_right : Stmt := topS 32
abbrev n__law_errors_right : List Str := ["_law_value_here", "_law_made", "_law_zone", "_law_row", "_law_line", "_law_text", "_law_number", "_law_key", "_law_name", "_law_at", "_law_told_here", "_law_some", "_law_spot", "_law_error", "_law_plain", "_law_one", "_law_other"]
theorem sc__law_errors_right : FnScope n__law_errors_right ["_law_value_here"] (defScope s__law_errors_right) := ⟨rfl, rfl, rfl, by decide +kernel, rfl, by decide +kernel, by decide +kernel⟩
abbrev s__law_keeps_itself : Stmt := topS 33
abbrev n__law_keeps_itself : List Str := ["_law_value_here", "_law_kept", "_law_more", "_law_told_here", "_law_again", "_law_one"]
theorem sc__law_keeps_itself : FnScope n__law_keeps_itself ["_law_value_here"] (defScope s__law_keeps_itself) := ⟨rfl, rfl, rfl, by decide +kernel, rfl, by decide +kernel, by decide +kernel⟩
abbrev s__law_told : Stmt := topS 34
abbrev n__law_told : List Str := ["_law_value_here", "_law_found"]
theorem sc__law_told : FnScope n__law_told ["_law_value_here"] (defScope s__law_told) := ⟨rfl, rfl, rfl, by decide +kernel, rfl, by decide +kernel, by decide +kernel⟩
abbrev s__law_spoilt : Stmt := topS 35
abbrev n__law_spoilt : List Str := ["_law_deal_here", "_law_letters_here", "_law_at", "_law_odd", "_law_some", "_law_both", "_law_swapped"]
theorem sc__law_spoilt : FnScope n__law_spoilt ["_law_deal_here", "_law_letters_here"] (defScope s__law_spoilt) := ⟨rfl, rfl, rfl, by decide +kernel, rfl, by decide +kernel, by decide +kernel⟩
abbrev s_law : Stmt := topS 36
abbrev n_law : List Str := ["_law_script", "_law_deal_here", "_law_turn", "_law_letters_here", "_law_odd", "_law_signs", "_law_is_good", "_law_word_here", "_law_some", "_law_far", "_law_deep", "_law_k", "_law_value_here", "_law_due", "_law_sign", "_law_at"]
theorem sc_law : FnScope n_law ["_law_script"] (defScope s_law) := ⟨rfl, rfl, rfl, by decide +kernel, rfl, by decide +kernel, by decide +kernel⟩
abbrev s_InvalidMade : Stmt := inClass (topS 3) 0
theorem sc_InvalidMade : FnScope ["self", "at"] ["self", "at"] (defScope s_InvalidMade) := ⟨rfl, rfl, rfl, by decide +kernel, rfl, by decide +kernel, by decide +kernel⟩
abbrev s_InvalidZone : Stmt := inClass (topS 5) 0
theorem sc_InvalidZone : FnScope ["self", "at"] ["self", "at"] (defScope s_InvalidZone) := ⟨rfl, rfl, rfl, by decide +kernel, rfl, by decide +kernel, by decide +kernel⟩
abbrev s_InvalidRow : Stmt := inClass (topS 6) 0
theorem sc_InvalidRow : FnScope ["self", "word"] ["self", "word"] (defScope s_InvalidRow) := ⟨rfl, rfl, rfl, by decide +kernel, rfl, by decide +kernel, by decide +kernel⟩
abbrev s_InvalidProgram : Stmt := inClass (topS 7) 0
theorem sc_InvalidProgram : FnScope ["self", "at"] ["self", "at"] (defScope s_InvalidProgram) := ⟨rfl, rfl, rfl, by decide +kernel, rfl, by decide +kernel, by decide +kernel⟩
abbrev s_NoText : Stmt := inClass (topS 10) 0
theorem sc_NoText : FnScope ["self", "value"] ["self", "value"] (defScope s_NoText) := ⟨rfl, rfl, rfl, by decide +kernel, rfl, by decide +kernel, by decide +kernel⟩
abbrev s_NoValue : Stmt := inClass (topS 11) 0
theorem sc_NoValue : FnScope ["self", "value"] ["self", "value"] (defScope s_NoValue) := ⟨rfl, rfl, rfl, by decide +kernel, rfl, by decide +kernel, by decide +kernel⟩
abbrev s_NoName : Stmt := inClass (topS 12) 0
theorem sc_NoName : FnScope ["self", "number"] ["self", "number"] (defScope s_NoName) := ⟨rfl, rfl, rfl, by decide +kernel, rfl, by decide +kernel, by decide +kernel⟩
abbrev s_NoRow : Stmt := inClass (topS 13) 0
theorem sc_NoRow : FnScope ["self", "at"] ["self", "at"] (defScope s_NoRow) := ⟨rfl, rfl, rfl, by decide +kernel, rfl, by decide +kernel, by decide +kernel⟩
abbrev s_NoKey : Stmt := inClass (topS 14) 0
theorem sc_NoKey : FnScope ["self", "key"] ["self", "key"] (defScope s_NoKey) := ⟨rfl, rfl, rfl, by decide +kernel, rfl, by decide +kernel, by decide +kernel⟩
/-- what the module's names hold -/
structure Txt (K : PySem.W.Frag) (mg : Str → Option Value) : Prop where
  a_check_letters : At K mg "check_letters" s_check_letters ["letters"]
  a__are_letters : At K mg "_are_letters" s__are_letters ["value"]
  a__consists_of : At K mg "_consists_of" s__consists_of ["characters", "text"]
  a__ascends : At K mg "_ascends" s__ascends ["text"]
  a_is_text : At K mg "is_text" s_is_text ["letters", "value"]
  a__law_deal : At K mg "_law_deal" s__law_deal ["_law_script", "_law_base"]
  a__law_draw : At K mg "_law_draw" s__law_draw ["_law_deal_here", "_law_many"]
  a__law_pick : At K mg "_law_pick" s__law_pick ["_law_deal_here", "_law_some"]
  a__law_letters : At K mg "_law_letters" s__law_letters ["_law_deal_here", "_law_many"]
  a__law_word : At K mg "_law_word" s__law_word ["_law_deal_here", "_law_letters_here", "_law_most"]
  a__law_value : At K mg "_law_value" s__law_value ["_law_deal_here"]
  a__law_kinds : At K mg "_law_kinds" s__law_kinds ["_law_error"]
  a__law_errors_right : At K mg "_law_errors_right" s__law_errors_right ["_law_value_here"]
  a__law_keeps_itself : At K mg "_law_keeps_itself" s__law_keeps_itself ["_law_value_here"]
  a__law_told : At K mg "_law_told" s__law_told ["_law_value_here"]
  a__law_spoilt : At K mg "_law_spoilt" s__law_spoilt ["_law_deal_here", "_law_letters_here"]
  a_law : At K mg "law" s_law ["_law_script"]
  e_UnderError : Err0 K mg "UnderError" (ca mg "UnderError")
  e_InvalidLetters : Err0 K mg "InvalidLetters" (ca mg "InvalidLetters")
  e_InvalidMade : ErrI K mg "InvalidMade" "InvalidMade.__init__" "at" s_InvalidMade (ca mg "InvalidMade")
  e_InvalidBound : Err0 K mg "InvalidBound" (ca mg "InvalidBound")
  e_InvalidZone : ErrI K mg "InvalidZone" "InvalidZone.__init__" "at" s_InvalidZone (ca mg "InvalidZone")
  e_InvalidRow : ErrI K mg "InvalidRow" "InvalidRow.__init__" "word" s_InvalidRow (ca mg "InvalidRow")
  e_InvalidProgram : ErrI K mg "InvalidProgram" "InvalidProgram.__init__" "at" s_InvalidProgram (ca mg "InvalidProgram")
  e_InvalidCommand : Err0 K mg "InvalidCommand" (ca mg "InvalidCommand")
  e_Mismatch : Err0 K mg "Mismatch" (ca mg "Mismatch")
  e_NoText : ErrI K mg "NoText" "NoText.__init__" "value" s_NoText (ca mg "NoText")
  e_NoValue : ErrI K mg "NoValue" "NoValue.__init__" "value" s_NoValue (ca mg "NoValue")
  e_NoName : ErrI K mg "NoName" "NoName.__init__" "number" s_NoName (ca mg "NoName")
  e_NoRow : ErrI K mg "NoRow" "NoRow.__init__" "at" s_NoRow (ca mg "NoRow")
  e_NoKey : ErrI K mg "NoKey" "NoKey.__init__" "key" s_NoKey (ca mg "NoKey")
  m_KeyError : mg "KeyError" = none
  m_ValueError : mg "ValueError" = none
  m_all : mg "all" = none
  m_enumerate : mg "enumerate" = none
  m_int : mg "int" = none
  m_isinstance : mg "isinstance" = none
  m_len : mg "len" = none
  m_list : mg "list" = none
  m_range : mg "range" = none
  m_repr : mg "repr" = none
  m_sorted : mg "sorted" = none
  m_str : mg "str" = none
  m_zip : mg "zip" = none
  c_CHARACTERS : ∃ t, mg "CHARACTERS" = some (.str "-./0123456789_abcdefghijklmnopqrstuvwxyz" t)
  c_FEWEST_LETTERS : ∃ t, mg "FEWEST_LETTERS" = some (.int 2 t)
  c_MOST_LETTERS : ∃ t, mg "MOST_LETTERS" = some (.int 5 t)
section
variable {P : Program} {w : World} {K : PySem.W.Frag} {mg : Str → Option Value} {base : Heap}
/-- the source of draws stands at D, its great cells at L -/
def Deal (D L : Addr) (H : Hp) : Prop := ∃ (cs : List Int) (m : Int), H D = some (.lst [.ref L, .int m]) ∧ H L = some (.lst (cs.map V.int)) ∧ 0 ≤ m ∧ m < 2147483647 ∧ cs.length ≤ 63
theorem Deal.ne {D L : Addr} {H : Hp} (d : Deal D L H) : D ≠ L := by
  obtain ⟨cs, m, h1, h2, _⟩ := d
  refine ne_of h1 h2 fun z => ?_
  have e : [V.ref L, V.int m] = cs.map V.int := by injection z
  cases cs with
  | nil => simp at e
  | cons c r => simp at e
theorem Deal.keep {D L : Addr} {H H' : Hp} (d : Deal D L H) (s : Same H H') : Deal D L H' := by
  obtain ⟨cs, m, h1, h2, h⟩ := d
  exact ⟨cs, m, s _ _ h1, s _ _ h2, h⟩
theorem Deal.new {D L p : Addr} {H : Hp} (d : Deal D L H) (h : H p = none) : p ≠ D ∧ p ≠ L := by
  obtain ⟨cs, m, h1, h2, _⟩ := d
  exact ⟨(ne_of_none h1 h).symm, (ne_of_none h2 h).symm⟩
def spDraw : Sp := fun vs H Q _ => ∃ (D L : Addr) (n : Int), vs = [.ref D, .int n] ∧ Deal D L H ∧ 0 < n ∧ n < 2 ^ 200 ∧ ∀ (k : Int) (H' : Hp), 0 ≤ k → k < n → Keep D L H H' → Deal D L H' → Q (.int k) H'
theorem cl_draw (T : Txt K mg) : Cl P w K mg base "_law_draw" ["_law_deal_here", "_law_many"] 1 spDraw := cl_of T.a__law_draw fun f fd F => by
  refine F.ok sc__law_draw (fun vs H Q E h => ?_) (fun cdv A outer s H vs Q E hr h => ?_)
  · obtain ⟨D, L, n, rfl, _⟩ := h
    rfl
  · obtain ⟨D, L, n, rfl, d, hn, hn2, q⟩ := h
    refine ⟨_, (Evl.pss_cut (ps_while PassesOwn.never (PW.pt (pw_and (pt_cmpR (op_neD hr.units) (pe_ix ix_list (pv 0) pe_int (fun _ _ => rfl)) (pe_lst pa_nil) (nomark _)) (pw_and1 (pt_cmpR op_eq (pe_ix ix_list (pe_ix ix_list (pv 0) pe_int (fun _ _ => rfl)) (pe_un un_neg pe_int) (fun _ _ => rfl)) pe_int (nomark _)))))
      (pss_one (ps_expr (pe_bm0 PySem.F.plainAttrs_list PySem.F.slot_list_pop PySem.F.type_list_pop mt_pop (pe_ix ix_list (pv 0) pe_int (fun _ _ => rfl))))))
      (pss_cons (ps_if (pt_cmpR (op_neD hr.units) (pe_ix ix_list (pv 0) pe_int (fun _ _ => rfl)) (pe_lst pa_nil) (nomark _))
      (pss_cons (ps_set (i := 2) sc__law_draw.nd rfl (Or.inl rfl) (pe_bm0 PySem.F.plainAttrs_list PySem.F.slot_list_pop PySem.F.type_list_pop mt_pop (pe_ix ix_list (pv 0) pe_int (fun _ _ => rfl))))
      (pss_cons (ps_expr (pe_bm PySem.F.plainAttrs_list PySem.F.slot_list_append PySem.F.type_list_append mt_append (pe_ix ix_list (pv 0) pe_int (fun _ _ => rfl)) (pa_cons (pe_op op_fdivW (pv 2) (pv 1)) pa_nil)))
      (pss_one (ps_ret (pe_op op_mod (pe_callTy call_intI (by rfl) T.m_int (by decide +kernel) (pa_cons (pv 2) pa_nil)) (pv 1))))))
      pss_nil)
      (pss_cons (ps_asg (pe_op op_mod (pe_callTy call_intI (by rfl) T.m_int (by decide +kernel) (pa_cons (pe_op op_mulW (pe_ix ix_list (pv 0) pe_int (fun _ _ => rfl)) pe_int) pa_nil)) pe_int) (pg_sub (pv 0) pe_int set_list))
      (pss_one (ps_ret (pe_op op_mod (pe_callTy call_intI (by rfl) T.m_int (by decide +kernel) (pa_cons (pe_op op_fdivW (pe_ix ix_list (pv 0) pe_int (fun _ _ => rfl)) pe_int) pa_nil)) (pv 1))))))), ?_⟩
    obtain ⟨cs, m, hD, hL, hm⟩ := d
    obtain ⟨hm1, hm2, hm3⟩ := hm
    -- the zeros at the end are thrown away
    refine ⟨fun σ H' => ∃ cs' : List Int, σ = [some (.ref D), some (.int n), none] ∧ cs'.length ≤ 63 ∧ Keep D L H H' ∧ H' D = some (.lst [.ref L, .int m]) ∧ H' L = some (.lst (cs'.map V.int)), ?_, ?_⟩
    · refine ⟨fun k σ H' => ∃ cs' : List Int, σ = [some (.ref D), some (.int n), none] ∧ k = cs'.length ∧ cs'.length ≤ 63 ∧ Keep D L H H' ∧ H' D = some (.lst [.ref L, .int m]) ∧ H' L = some (.lst (cs'.map V.int)), ⟨cs.length, cs, rfl, rfl, hm3, Keep.refl H, hD, hL⟩, ?_⟩
      rintro k σ H1 ⟨cs', rfl, rfl, hlen, kp, h1, h2⟩
      walk_at "rds"
      refine rd_ixL (SqL.of h1) (by rfl) ?_
      walk_at "rds"
      refine ⟨Nat.zero_le _, fun e he => ?_⟩
      have s1 : Same H1 (upd H1 e (.lst [])) := same_upd he
      have h1' := s1 _ _ h1
      have h2' := s1 _ _ h2
      have kp' : Keep D L H (upd H1 e (.lst [])) := kp.trans (Keep.of_same s1)
      refine rd_neNil (SqL.of h2') (SqL.of upd_same) ?_
      generalize upd H1 e (.lst []) = H2 at *
      clear s1
      walk_at "rds"
      refine rd_ite (fun hb => ?_) (fun hb => ?_)
      · -- the last cell
        have hne : cs' ≠ [] := by
          rintro rfl
          simp at hb
        obtain ⟨ys, z, rfl⟩ : ∃ ys z, cs' = ys ++ [z] := ⟨cs'.dropLast, cs'.getLast hne, (List.dropLast_concat_getLast hne).symm⟩
        have h2'' : H2 L = some (.lst (ys.map V.int ++ [.int z])) := by rw [h2', List.map_append]; rfl
        walk_at "rds"
        refine rd_ixL (SqL.of h1') (by rfl) ?_
        walk_at "rds"
        refine rd_ixL (SqL.of h2'') (atI_last _ _) ?_
        walk_at "rds"
        refine rd_ite (fun hz => ?_) (fun hz => ?_)
        · refine ⟨fun σ' H' => ∃ cs' : List Int, σ' = [some (.ref D), some (.int n), none] ∧ cs'.length < ys.length + 1 ∧ Keep D L H H' ∧ H' D = some (.lst [.ref L, .int m]) ∧ H' L = some (.lst (cs'.map V.int)), ?_, ?_⟩
          · rintro σ' H' ⟨cs2, e1, e2, e3, e4, e5⟩
            rw [List.length_append] at hlen
            exact ⟨cs2.length, by simpa using e2, cs2, e1, rfl, by simp at hlen; omega, e3, e4, e5⟩
          · walk_at "rds"
            refine rd_ixL (SqL.of h1') (by rfl) ?_
            refine rd_tyL (SqL.of h2'') ?_
            refine rd_pop h2'' ?_
            have hDL : D ≠ L := ne_of h1' h2'' fun z => by
              injection z with z
              cases ys <;> simp at z
            exact ⟨ys, rfl, Nat.lt_succ_self _, kp'.trans (Keep.own (.inr rfl)), by rw [upd_ne hDL]; exact h1', upd_same⟩
        · exact ⟨_, rfl, hlen, kp', h1', h2'⟩
      · exact ⟨_, rfl, hlen, kp', h1', h2'⟩
    · rintro σ' H1 ⟨cs', rfl, hlen, kp, h1, h2⟩
      walk_at "rds"
      refine rd_ixL (SqL.of h1) (by rfl) ?_
      walk_at "rds"
      refine ⟨Nat.zero_le _, fun e he => ?_⟩
      have s1 : Same H1 (upd H1 e (.lst [])) := same_upd he
      have h1' := s1 _ _ h1
      have h2' := s1 _ _ h2
      have kp' : Keep D L H (upd H1 e (.lst [])) := kp.trans (Keep.of_same s1)
      refine rd_neNil (SqL.of h2') (SqL.of upd_same) ?_
      generalize upd H1 e (.lst []) = H2 at *
      clear s1
      have hd : Deal D L H2 := ⟨cs', m, h1', h2', hm1, hm2, hlen⟩
      have hDL := hd.ne
      walk_at "rds"
      refine rd_ite (fun hb => ?_) (fun hb => ?_)
      · have hne : cs' ≠ [] := by
          rintro rfl
          simp at hb
        obtain ⟨ys, z, rfl⟩ : ∃ ys z, cs' = ys ++ [z] := ⟨cs'.dropLast, cs'.getLast hne, (List.dropLast_concat_getLast hne).symm⟩
        have h2'' : H2 L = some (.lst (ys.map V.int ++ [.int z])) := by rw [h2', List.map_append]; rfl
        rw [List.length_append] at hlen
        simp only [List.length_cons, List.length_nil] at hlen
        walk_at "rds"
        refine rd_ixL (SqL.of h1') (by rfl) ?_
        refine rd_tyL (SqL.of h2'') ?_
        refine rd_pop h2'' ?_
        have h1c : upd H2 L (.lst (ys.map V.int)) D = some (.lst [.ref L, .int m]) := by rw [upd_ne hDL]; exact h1'
        walk_at "rds"
        refine rd_ixL (SqL.of h1c) (by rfl) ?_
        refine rd_tyL (SqL.of upd_same) ?_
        walk_at "rds"
        refine rd_I (wide_div hn (b := 200) (by omega) (by decide) (by decide)) ?_
        walk_at "rds"
        refine rd_app upd_same (by rw [List.length_map]; exact small1000 (by omega)) ?_
        walk_at "rds"
        refine rd_I hn ?_
        rw [upd_upd]
        refine q (z % n) _ (Int.emod_nonneg _ (by omega)) (Int.emod_lt_of_pos _ hn) (kp'.trans (Keep.own (.inr rfl))) ⟨ys ++ [z / n], m, by rw [upd_ne hDL]; exact h1', ?_, hm1, hm2, by simpa using hlen⟩
        rw [upd_same, List.map_append]
        rfl
      · walk_at "rds"
        refine rd_ixL (SqL.of h1') (by rfl) ?_
        walk_at "rds"
        refine rd_I (mulW_of (by omega) (by decide)) ?_
        walk_at "rds"
        refine rd_I (by decide) ?_
        walk_at "rds"
        refine rd_setL h1' (by rfl) ?_
        walk_at "rds"
        refine rd_ixL (SqL.of upd_same) (by rfl) ?_
        walk_at "rds"
        refine rd_I (wide_div (b := 10) (by decide) (by decide) (by decide) (by decide)) ?_
        walk_at "rds"
        refine rd_I hn ?_
        refine q _ _ (Int.emod_nonneg _ (by omega)) (Int.emod_lt_of_pos _ hn) (kp'.trans (Keep.own (.inl rfl))) ⟨cs', m * 48271 % 2147483647, upd_same, by rw [upd_ne hDL.symm]; exact h2', Int.emod_nonneg _ (by decide), Int.emod_lt_of_pos _ (by decide), hlen⟩
/-- the source is made -/
def spDeal (K : PySem.W.Frag) : Sp := fun vs H Q _ => ∃ (a : Addr) (ns : List Int) (b : Int), vs = [.ref a, .int b] ∧ SqL K H a (ns.map V.int) ∧ ns.length ≤ 63 ∧ 0 ≤ b ∧ b ≤ 1000 ∧
  ∀ (D L : Addr) (H' : Hp), H D = none → H L = none → Same H H' → Deal D L H' → Q (.ref D) H'
theorem cl_deal (T : Txt K mg) : Cl P w K mg base "_law_deal" ["_law_script", "_law_base"] 1 (spDeal K) := cl_of T.a__law_deal fun f fd F => by
  refine F.ok sc__law_deal (fun vs H Q E h => ?_) (fun cdv A outer s H vs Q E hr h => ?_)
  · obtain ⟨a, ns, b, rfl, _⟩ := h
    rfl
  · obtain ⟨a, ns, b, rfl, hS, hlen, hb0, hb1, q⟩ := h
    refine ⟨_, (pss_cons (ps_setLc (i := 3) (own := [("_law_cell", 2)]) (g := gName 2) (tt := tYes) (by rfl) sc__law_deal.nd rfl rfl (sw_true rfl rfl rfl (by decide +kernel)) (pi_list (pe_slice sl_list (pv 0) (po_some (pv 1)) (po_some pe_int))) (blkOk_by (own := [("_law_cell", 2)]) (N := n__law_deal) (sc := defScope s__law_deal) (by decide +kernel)) (fun _ _ _ _ _ => (pg_name (i := 2) sc__law_deal.nd rfl (Or.inl rfl))) (fun _ _ _ _ _ => pts_nil) (fun _ _ _ _ _ => (pe_ifExp (pt_cmpR op_gt (pv 2) pe_int (nomark _)) (pv 2) (pe_op op_sub pe_int (pv 2)))))
      (pss_cons (ps_set (i := 4) sc__law_deal.nd rfl (Or.inl rfl) (pe_op op_add pe_int (pe_op op_mulW pe_int (pv 1))))
      (Evl.pss_cut (ps_for PassesOwn.never rfl (pi_list (pv 3)) (pg_name (i := 2) sc__law_deal.nd rfl (Or.inl rfl))
      (pss_one (ps_set (i := 4) sc__law_deal.nd rfl (Or.inl rfl) (pe_op op_mod (pe_callTy call_intI (by rfl) T.m_int (by decide +kernel) (pa_cons (pe_op op_add (pe_op op_mulW (pv 4) pe_int) (pe_op op_mod (pe_callTy call_intI (by rfl) T.m_int (by decide +kernel) (pa_cons (pv 2) pa_nil)) pe_int)) pa_nil)) pe_int))))
      (pss_one (ps_ret (pe_lst (pa_cons (pe_revL (pe_lc (own := [("_law_cell", 2)]) (g := gName 2) (by rfl) sc__law_deal.nd (pi_list (pv 3)) (blkOk_by (own := [("_law_cell", 2)]) (N := n__law_deal) (sc := defScope s__law_deal) (by decide +kernel)) (fun _ _ _ _ _ => (pg_name (i := 2) sc__law_deal.nd rfl (Or.inl rfl))) (fun _ _ _ _ _ => (pts_one (pt_cmpR op_ge (pv 2) (pe_op op_pow pe_int pe_int) (nomark _)))) (fun _ _ _ _ _ => (pv 2)))) (pa_cons (pv 4) pa_nil)))))))), ?_⟩
    walk_at "rds"
    refine rd_slL hS fun p np => ?_
    obtain ⟨zs, ez, hz⟩ := cutV_ints ns (some b) (some 63)
    rw [ez]
    have s1 : Same H (upd H p (.lst (zs.map V.int))) := same_upd np
    have hp : upd H p (.lst (zs.map V.int)) p = some (.lst (zs.map V.int)) := upd_same
    generalize upd H p (.lst (zs.map V.int)) = H1 at *
    refine ⟨_, rfl, ⟨_, SqL.of hp⟩, fun c nc => lc_list (K := K) (a := p) (xs := zs.map V.int) (fun i H' => Same H1 H' ∧ H' c = some (.lst ((zs.take i).map fun z => V.int (if 0 < z then z else 0 - z)))) ⟨same_upd nc, upd_same⟩ (fun i H' _ h => SqL.of (h.1 _ _ hp)) ?_ ?_⟩
    · rintro i x H2 hx ⟨s2, hc⟩
      obtain ⟨z, hz', rfl⟩ := get_map hx
      have hl : i < zs.length := (List.getElem?_eq_some_iff.mp hz').1
      walk_at "rds"
      refine ⟨rfl, ?_⟩
      walk_at "rds"
      refine rd_ite (fun _ => ?_) (fun h => by cases h)
      have hsz : ((zs.take i).map fun z => V.int (if 0 < z then z else 0 - z)).length < sizeLine := by
        rw [List.length_map, List.length_take]
        exact small1000 (by omega)
      walk_at "rds"
      refine rd_ite (fun h0 => ?_) (fun h0 => ?_)
      · walk_at "rds"
        refine ⟨_, hc, hsz, same_mut s2 nc, ?_⟩
        rw [upd_same, take_snoc _ hz', if_pos (of_decide_eq_true h0)]
      · walk_at "rds"
        refine ⟨_, hc, hsz, same_mut s2 nc, ?_⟩
        rw [upd_same, take_snoc _ hz', if_neg (of_decide_eq_false h0)]
    · rintro H2 ⟨s2, hc0⟩
      obtain ⟨cs, hcs, hc⟩ : ∃ cs : List Int, cs.length ≤ 63 ∧ H2 c = some (.lst (cs.map V.int)) := ⟨zs.map fun z => if 0 < z then z else 0 - z, by rw [List.length_map]; omega, by
        rw [hc0, List.length_map, List.take_length, List.map_map]
        rfl⟩
      have sH : Same H H2 := s1.trans s2
      clear hc0 s1 s2 hp nc np ez hz
      walk_at "rds"
      refine rd_I (mulW_of (by decide) (by omega)) ?_
      walk_at "rds"
      -- the number that is mixed
      refine rd_cut (fun σ' H' => ∃ (y : Option V) (m : Int), σ' = [some (.ref a), some (.int b), y, some (.ref c), some (.int m)] ∧ H' = H2 ∧ 0 ≤ m ∧ m < 2147483647) ?_ ?_
      · walk_at "rds"
        refine ⟨_, rfl, ⟨_, SqL.of hc⟩, for_list (K := K) (a := c) (xs := cs.map V.int) (fun i σ' H' => ∃ (y : Option V) (m : Int), σ' = [some (.ref a), some (.int b), y, some (.ref c), some (.int m)] ∧ H' = H2 ∧ 0 ≤ m ∧ m < 2147483647) ⟨none, 32416190 + 17 * b, rfl, rfl, by omega, by omega⟩ (fun i σ' H' _ h => ?_) ?_ (fun σ' H' h => h)⟩
        · obtain ⟨y, m, _, rfl, _⟩ := h
          exact SqL.of hc
        · rintro i x σ' H' hx ⟨y, m, rfl, rfl, hm1, hm2⟩
          obtain ⟨z, hz', rfl⟩ := get_map hx
          walk_at "rds"
          refine rd_I (mulW_of (by omega) (by decide)) ?_
          walk_at "rds"
          refine rd_I (by decide) ?_
          walk_at "rds"
          refine rd_I (by decide) ?_
          walk_at "rds"
          exact ⟨_, _, rfl, rfl, Int.emod_nonneg _ (by decide), Int.emod_lt_of_pos _ (by decide)⟩
      · rintro σ' H' ⟨y, m, rfl, rfl, hm1, hm2⟩
        walk_at "rds"
        refine ⟨_, rfl, ⟨_, SqL.of hc⟩, fun e ne => lc_list (K := K) (a := c) (xs := cs.map V.int) (fun i H3 => Same H' H3 ∧ ∃ ds : List Int, ds.length ≤ i ∧ H3 e = some (.lst (ds.map V.int))) ⟨same_upd ne, [], Nat.le_refl _, upd_same⟩ (fun i H3 _ h => SqL.of (h.1 _ _ hc)) ?_ ?_⟩
        · rintro i x H3 hx ⟨s3, ds, hd, he⟩
          obtain ⟨z, hz', rfl⟩ := get_map hx
          have hl : i < cs.length := (List.getElem?_eq_some_iff.mp hz').1
          walk_at "rds"
          refine ⟨rfl, ?_⟩
          walk_at "rds"
          refine rd_I ⟨by decide, by decide, by decide⟩ ?_
          walk_at "rds"
          refine rd_ite (fun h0 => ?_) (fun h0 => ?_)
          · walk_at "rds"
            refine ⟨_, he, by rw [List.length_map]; exact small1000 (by omega), same_mut s3 ne, ds ++ [z], by simpa using hd, ?_⟩
            rw [upd_same, List.map_append]
            rfl
          · exact ⟨s3, ds, by omega, he⟩
        · rintro H3 ⟨s3, ds, hd, he⟩
          rw [List.length_map] at hd
          refine ⟨e, _, rfl, SqL.of he, fun l nl => ?_⟩
          have e1 : (ds.map V.int).reverse = ds.reverse.map V.int := by rw [List.map_reverse]
          rw [e1]
          walk_at "rds"
          refine ⟨(by show 2 ≤ sizeLine; decide), fun d nd => ?_⟩
          have s4 : Same H3 (upd H3 l (.lst (ds.reverse.map V.int))) := same_upd nl
          have s5 := same_upd (o := .lst [V.ref l, V.int m]) nd
          have nl2 : H l = none := (sH.trans s3).free nl
          refine q d l _ ((sH.trans (s3.trans s4)).free nd) nl2 (sH.trans (s3.trans (s4.trans s5))) ⟨ds.reverse, m, upd_same, ?_, hm1, hm2, by rw [List.length_reverse]; omega⟩
          rw [upd_ne (ne_of_none upd_same nd), upd_same]
/-- a sequence to pick from: a list, or a text by its sgs -/
def SeqV (K : PySem.W.Frag) (H : Hp) (D L : Addr) (v : V) (ys : List V) : Prop := (∃ a, v = .ref a ∧ a ≠ D ∧ a ≠ L ∧ SqL K H a ys) ∨ (∃ l, v = .str (tx l) ∧ ys = sgs l)
def spPick (K : PySem.W.Frag) : Sp := fun vs H Q _ => ∃ (D L : Addr) (v : V) (ys : List V), vs = [.ref D, v] ∧ Deal D L H ∧ SeqV K H D L v ys ∧ 0 < ys.length ∧ ys.length ≤ 1000 ∧ ∀ (x : V) (H' : Hp), x ∈ ys → Keep D L H H' → Deal D L H' → Q x H'
theorem keep_seq {K : PySem.W.Frag} {H H' : Hp} {D L a : Addr} {ys : List V} (k : Keep D L H H') (h1 : a ≠ D) (h2 : a ≠ L) (h : SqL K H a ys) : SqL K H' a ys := by
  rcases h with (h | ⟨o, h⟩) | h
  · exact .inl (.inl (k _ _ h h1 h2))
  · exact .inl (.inr ⟨o, k _ _ h h1 h2⟩)
  · exact .inr h
theorem cl_pick (T : Txt K mg) : Cl P w K mg base "_law_pick" ["_law_deal_here", "_law_some"] 2 (spPick K) := cl_of T.a__law_pick fun f fd F => by
  have C__law_draw := cl_draw (P := P) (w := w) (base := base) T
  refine F.ok sc__law_pick (fun vs H Q E h => ?_) (fun cdv A outer s H vs Q E hr h => ?_)
  · obtain ⟨D, L, v, ys, rfl, _⟩ := h
    rfl
  · obtain ⟨D, L, v, ys, rfl, hd, hS, h0, h1, q⟩ := h
    refine ⟨_, (pss_one (ps_ret (pe_ix ix_any (pv 1) (pe_cl C__law_draw (hr.mono (by decide)) (by rfl) (pa_cons (pv 0) (pa_cons (pe_callB call_lenA (by rfl) T.m_len (by decide +kernel) (pa_cons (pv 1) pa_nil)) pa_nil))) (fun _ _ => rfl)))), ?_⟩
    walk_at "rds"
    refine rd_lenA (ys := ys) ?_ ?_
    · rcases hS with ⟨a, rfl, h2, h3, h4⟩ | ⟨l, rfl, rfl⟩
      · exact .inl ⟨a, rfl, h4⟩
      · exact .inr ⟨l, rfl, rfl, by rw [← sgs_len]; exact Nat.le_of_lt (small1000 h1)⟩
    walk_at "rds"
    refine ⟨D, L, _, rfl, hd, by omega, by omega, fun k H' hk1 hk2 kp hd' => ?_⟩
    obtain ⟨j, rfl⟩ := Int.eq_ofNat_of_zero_le hk1
    have hj : j < ys.length := by omega
    refine rd_ixA (ys := ys) (j := j) (x := ys[j]) ?_ (List.getElem?_eq_getElem hj) ?_
    · rcases hS with ⟨a, rfl, h2, h3, h4⟩ | ⟨l, rfl, rfl⟩
      · exact .inl ⟨a, rfl, keep_seq kp h2 h3 h4⟩
      · exact .inr ⟨l, rfl, rfl, by rw [← sgs_len]; exact Nat.le_of_lt (small1000 h1)⟩
    · exact q _ _ (List.getElem_mem hj) kp hd'
end
section
variable {P : Program} {w : World} {K : PySem.W.Frag} {mg : Str → Option Value} {base : Heap}
def alphabet : List Nat := [45, 46, 47, 48, 49, 50, 51, 52, 53, 54, 55, 56, 57, 95, 97, 98, 99, 100, 101, 102, 103, 104, 105, 106, 107, 108, 109, 110, 111, 112, 113, 114, 115, 116, 117, 118, 119, 120, 121, 122]
theorem alphabet_nodup : alphabet.Nodup := by decide
def spLetters : Sp := fun vs H Q _ => ∃ (D L : Addr) (n : Int), vs = [.ref D, .int n] ∧ Deal D L H ∧ 0 ≤ n ∧ n ≤ 39 ∧
  ∀ (ls : List Nat) (H' : Hp), (ls.length : Int) = n → ls.Pairwise (· < ·) → (∀ c ∈ ls, c ∈ alphabet) → Keep D L H H' → Deal D L H' → Q (.str (tx ls)) H'
theorem cl_letters (T : Txt K mg) : Cl P w K mg base "_law_letters" ["_law_deal_here", "_law_many"] 2 spLetters := cl_of T.a__law_letters fun f fd F => by
  have C__law_draw := cl_draw (P := P) (w := w) (base := base) T
  refine F.ok sc__law_letters (fun vs H Q E h => ?_) (fun cdv A outer s H vs Q E hr h => ?_)
  · obtain ⟨D, L, v, rfl, _⟩ := h
    rfl
  · obtain ⟨D, L, n, rfl, hd, h0, h1, q⟩ := h
    refine ⟨_, (pss_cons (ps_par (i := 2) (j := 3) (by rfl) sc__law_letters.nd rfl rfl (by decide) rfl rfl (pa_cons (pe_callTy (call_listX rfl) (by rfl) T.m_list (by decide +kernel) (pa_cons (pe_strX [45, 46, 47, 48, 49, 50, 51, 52, 53, 54, 55, 56, 57, 95, 97, 98, 99, 100, 101, 102, 103, 104, 105, 106, 107, 108, 109, 110, 111, 112, 113, 114, 115, 116, 117, 118, 119, 120, 121, 122] (by decide +kernel)) pa_nil)) (pa_cons (pe_lst pa_nil) pa_nil)) (by rfl))
      (Evl.pss_cut (ps_for PassesOwn.never rfl (pi_range1 (by rfl) T.m_range (pa_cons (pv 1) pa_nil)) (pg_name (i := 4) sc__law_letters.nd rfl (Or.inl rfl))
      (pss_one (ps_expr (pe_bm PySem.F.plainAttrs_list PySem.F.slot_list_append PySem.F.type_list_append mt_append (pv 3) (pa_cons (pe_bm PySem.F.plainAttrs_list PySem.F.slot_list_pop PySem.F.type_list_pop mt_popAt (pv 2) (pa_cons (pe_cl C__law_draw (hr.mono (by decide)) (by rfl) (pa_cons (pv 0) (pa_cons (pe_callB call_lenQ (by rfl) T.m_len (by decide +kernel) (pa_cons (pv 2) pa_nil)) pa_nil))) pa_nil)) pa_nil)))))
      (pss_one (ps_ret (pe_bm PySem.F.plainAttrs_str PySem.F.slot_str_join PySem.F.type_str_join mt_joinX (pe_strX [] (by decide +kernel)) (pa_cons (pe_callB cr_sortedS (by rfl) T.m_sorted (by decide +kernel) (pa_cons (pe_lc (own := [("_law_sign", 5)]) (g := gName 5) (tt := tYes) (by rfl) sc__law_letters.nd (pi_list (pv 3)) (blkOk_by (own := [("_law_sign", 5)]) (N := n__law_letters) (sc := defScope s__law_letters) (by decide +kernel)) (fun _ _ _ _ _ => (pg_name (i := 5) sc__law_letters.nd rfl (Or.inl rfl))) (fun _ _ _ _ _ => pts_nil) (fun _ _ _ _ _ => (pe_callTy call_strS (by rfl) T.m_str (by decide +kernel) (pa_cons (pv 5) pa_nil)))) pa_nil)) pa_nil)))))), ?_⟩
    walk_at "rds"
    refine rd_listX (l := alphabet) (by decide) fun s ns => ?_
    have s1 : Same H (upd H s (.lst (sgs alphabet))) := same_upd ns
    have hs1 : upd H s (.lst (sgs alphabet)) s = some (.lst (sgs alphabet)) := upd_same
    generalize upd H s (.lst (sgs alphabet)) = H1 at *
    walk_at "rds"
    refine ⟨Nat.zero_le _, fun g ng => ?_⟩
    have s2 : Same H1 (upd H1 g (.lst [])) := same_upd ng
    have hg1 : upd H1 g (.lst []) g = some (.lst []) := upd_same
    have hs2 := s2 _ _ hs1
    have hgs : g ≠ s := (ne_of_none hs1 ng).symm
    have ng0 : H g = none := s1.free ng
    generalize upd H1 g (.lst []) = H2 at *
    walk_at "rds"
    have hd2 := hd.keep (s1.trans s2)
    have sH := s1.trans s2
    obtain ⟨cs, m, hD, hL, _⟩ := id hd
    have sD : s ≠ D := (ne_of_none hD ns).symm
    have sL : s ≠ L := (ne_of_none hL ns).symm
    have gD : g ≠ D := (ne_of_none hD ng0).symm
    have gL : g ≠ L := (ne_of_none hL ng0).symm
    clear hD hL
    refine rd_cut (fun σ' H' => ∃ (y : Option V) (fs : List Nat), σ' = [some (.ref D), some (.int n), some (.ref s), some (.ref g), y, none] ∧ (fs.length : Int) = n ∧ fs.Nodup ∧ (∀ c ∈ fs, c ∈ alphabet) ∧ Keep D L H H' ∧ Deal D L H' ∧ H' g = some (.lst (sgs fs))) ?_ ?_
    · walk_at "rds"
      refine ⟨n, rfl, by omega, by omega, for_range (lo := 0) (n := n.toNat) (fun i σ' H' => ∃ (y : Option V) (fs zs : List Nat), σ' = [some (.ref D), some (.int n), some (.ref s), some (.ref g), y, none] ∧ fs.length = i ∧ (zs ++ fs).Perm alphabet ∧ Keep D L H H' ∧ Deal D L H' ∧ H' g = some (.lst (sgs fs)) ∧ H' s = some (.lst (sgs zs)))
        ⟨none, [], alphabet, rfl, rfl, by rw [List.append_nil], Keep.of_same sH, hd2, hg1, hs2⟩ ?_ ?_⟩
      · rintro i σ' H' hi ⟨y, fs, zs, rfl, hl, hp, kp, hd', hg', hs'⟩
        have hlen : zs.length + fs.length = 40 := by
          have := hp.length_eq
          rw [List.length_append] at this
          exact this
        walk_at "rds"
        refine rd_tyL (SqL.of hg') ?_
        walk_at "rds"
        refine rd_tyL (SqL.of hs') ?_
        walk_at "rds"
        refine rd_lenL (SqL.of hs') ?_
        walk_at "rds"
        rw [sgs_len]
        refine ⟨D, L, _, rfl, hd', by omega, by omega, fun k H3 hk1 hk2 kp3 hd3 => ?_⟩
        obtain ⟨j, rfl⟩ := Int.eq_ofNat_of_zero_le hk1
        have hj : j < zs.length := by omega
        have hs3 := kp3 _ _ hs' sD sL
        have hg3 := kp3 _ _ hg' gD gL
        walk_at "rds"
        refine rd_popAt (i := j) (y := V.str (tx [zs[j]])) hs3 (by omega) (by unfold sgs; rw [List.getElem?_map, List.getElem?_eq_getElem hj]; rfl) ?_
        rw [sgs_erase]
        have hd4 : Deal D L (upd H3 s (.lst (sgs (zs.eraseIdx j)))) := by
          obtain ⟨c1, m1, a1, a2, a3⟩ := hd3
          exact ⟨c1, m1, by rw [upd_ne sD.symm]; exact a1, by rw [upd_ne sL.symm]; exact a2, a3⟩
        have kp4 : Keep D L H (upd H3 s (.lst (sgs (zs.eraseIdx j)))) := (kp.trans kp3).mut ns
        have hg4 : upd H3 s (.lst (sgs (zs.eraseIdx j))) g = some (.lst (sgs fs)) := by rw [upd_ne hgs]; exact hg3
        have hs4 : upd H3 s (.lst (sgs (zs.eraseIdx j))) s = some (.lst (sgs (zs.eraseIdx j))) := upd_same
        generalize upd H3 s (.lst (sgs (zs.eraseIdx j))) = H4 at *
        walk_at "rds"
        refine rd_app hg4 (by rw [sgs_len]; exact small1000 (by omega)) ?_
        refine ⟨_, fs ++ [zs[j]], zs.eraseIdx j, rfl, by rw [List.length_append]; simp; exact hl, ?_, kp4.mut ng0, ?_, ?_, ?_⟩
        · have e1 := eraseIdx_perm (List.getElem?_eq_getElem hj)
          have e2 : (zs.eraseIdx j ++ (fs ++ [zs[j]])).Perm ((zs[j] :: zs.eraseIdx j) ++ fs) := by
            rw [← List.append_assoc]
            exact (List.perm_append_singleton _ _)
          exact e2.trans ((e1.append_right fs).trans hp)
        · obtain ⟨c1, m1, a1, a2, a3⟩ := hd4
          exact ⟨c1, m1, by rw [upd_ne gD.symm]; exact a1, by rw [upd_ne gL.symm]; exact a2, a3⟩
        · rw [upd_same]
          unfold sgs
          rw [List.map_append]
          rfl
        · rw [upd_ne hgs.symm]
          exact hs4
      · rintro σ' H' ⟨y, fs, zs, rfl, hl, hp, kp, hd', hg', hs'⟩
        have nd : (zs ++ fs).Nodup := hp.nodup_iff.mpr alphabet_nodup
        exact ⟨y, fs, rfl, by omega, (List.nodup_append.mp nd).2.1, fun c hc => hp.mem_iff.mp (List.mem_append_right _ hc), kp, hd', hg'⟩
    · rintro σ' H' ⟨y, fs, rfl, hl, nd, hmem, kp, hd', hg'⟩
      walk_at "rds"
      refine ⟨_, rfl, ⟨_, SqL.of hg'⟩, fun e ne => lc_list (K := K) (a := g) (xs := sgs fs) (fun i H3 => Same H' H3 ∧ H3 e = some (.lst (sgs (fs.take i)))) ⟨same_upd ne, upd_same⟩ (fun i H3 _ h => SqL.of (h.1 _ _ hg')) ?_ ?_⟩
      · rintro i x H3 hx ⟨s3, he⟩
        obtain ⟨c, hc, rfl⟩ := get_map hx
        have hl' : i < fs.length := (List.getElem?_eq_some_iff.mp hc).1
        walk_at "rds"
        refine ⟨rfl, ?_⟩
        walk_at "rds"
        refine rd_ite (fun _ => ?_) (fun h => by cases h)
        walk_at "rds"
        refine ⟨_, he, by rw [sgs_len, List.length_take]; exact small1000 (by omega), same_mut s3 ne, ?_⟩
        rw [upd_same]
        unfold sgs
        rw [take_snoc _ hc]
      · rintro H3 ⟨s3, he⟩
        rw [sgs_len, List.take_length] at he
        have he' : H3 e = some (.lst ((fs.map fun c => tx [c]).map V.str)) := by rw [he, List.map_map]; rfl
        walk_at "rds"
        refine rd_sortS (SqL.of he') (by rw [List.length_map]; omega) fun ys p hp hso np => ?_
        obtain ⟨ks, rfl, hk, hlt⟩ := sorted_signs hp hso nd
        walk_at "rds"
        refine rd_joinX (ls := ks.map fun c => [c]) (SqL.of (by rw [upd_same, List.map_map, List.map_map]; rfl)) ?_ ?_
        · have : (List.map List.length (ks.map fun c => [c])).sum = ks.length := by
            rw [List.map_map]
            have : (List.length ∘ fun c : Nat => [c]) = fun _ => 1 := rfl
            rw [this, List.map_const', List.sum_replicate_nat]
            omega
          rw [this, hk.length_eq]
          omega
        · rw [flat_ones]
          have kp3 : Keep D L H (upd H3 p (.lst ((ks.map fun c => tx [c]).map V.str))) := kp.trans (Keep.of_same (s3.trans (same_upd np)))
          exact q ks _ (by rw [hk.length_eq]; exact hl) hlt (fun c hc => hmem c (hk.mem_iff.mp hc)) kp3 (hd'.keep (s3.trans (same_upd np)))
def spWord : Sp := fun vs H Q _ => ∃ (D L : Addr) (ls : List Nat) (n : Int), vs = [.ref D, .str (tx ls), .int n] ∧ Deal D L H ∧ ls ≠ [] ∧ ls.length ≤ 100 ∧ 0 ≤ n ∧ n ≤ 100 ∧
  ∀ (t : List Nat) (H' : Hp), (∀ c ∈ t, c ∈ ls) → (t.length : Int) ≤ n → Keep D L H H' → Deal D L H' → Q (.str (tx t)) H'
theorem cl_word (T : Txt K mg) : Cl P w K mg base "_law_word" ["_law_deal_here", "_law_letters_here", "_law_most"] 3 spWord := cl_of T.a__law_word fun f fd F => by
  have C__law_draw := cl_draw (P := P) (w := w) (base := base) T
  have C__law_pick := cl_pick (P := P) (w := w) (base := base) T
  refine F.ok sc__law_word (fun vs H Q E h => ?_) (fun cdv A outer s H vs Q E hr h => ?_)
  · obtain ⟨D, L, ls, n, rfl, _⟩ := h
    rfl
  · obtain ⟨D, L, ls, n, rfl, hd, hne, hls, h0, h1, q⟩ := h
    have hpos : 0 < ls.length := List.length_pos_iff.mpr hne
    refine ⟨_, (pss_one (ps_ret (pe_bm PySem.F.plainAttrs_str PySem.F.slot_str_join PySem.F.type_str_join mt_joinX (pe_strX [] (by decide +kernel)) (pa_cons (pe_lc (own := [("_law_k", 3)]) (g := gName 3) (tt := tYes) (by rfl) sc__law_word.nd (pi_range1 (by rfl) T.m_range (pa_cons (pe_cl C__law_draw (hr.mono (by decide)) (by rfl) (pa_cons (pv 0) (pa_cons (pe_op op_add (pv 2) pe_int) pa_nil))) pa_nil)) (blkOk_by (own := [("_law_k", 3)]) (N := n__law_word) (sc := defScope s__law_word) (by decide +kernel)) (fun _ _ _ _ _ => (pg_name (i := 3) sc__law_word.nd rfl (Or.inl rfl))) (fun _ _ _ _ _ => pts_nil) (fun _ _ _ _ _ => (pe_cl C__law_pick (hr.mono (by decide)) (by rfl) (pa_cons (pv 0) (pa_cons (pv 1) pa_nil))))) pa_nil)))), ?_⟩
    walk_at "rds"
    refine ⟨D, L, _, rfl, hd, by omega, by omega, fun k H1 hk1 hk2 kp hd1 => ?_⟩
    refine ⟨k, rfl, by omega, by omega, fun e ne => lc_range (lo := 0) (n := k.toNat) (fun i H3 => ∃ t : List Nat, t.length = i ∧ (∀ c ∈ t, c ∈ ls) ∧ Keep D L H1 H3 ∧ Deal D L H3 ∧ H3 e = some (.lst (sgs t))) ⟨[], rfl, (fun _ h => by cases h), Keep.of_same (same_upd ne), hd1.keep (same_upd ne), upd_same⟩ ?_ ?_⟩
    · rintro i H3 hi ⟨t, ht, hmem, kp3, hd3, he⟩
      obtain ⟨cs, m, hD, hL, _⟩ := id hd1
      have eD : e ≠ D := (ne_of_none hD ne).symm
      have eL : e ≠ L := (ne_of_none hL ne).symm
      walk_at "rds"
      refine ⟨rfl, ?_⟩
      walk_at "rds"
      refine rd_ite (fun _ => ?_) (fun h => by cases h)
      walk_at "rds"
      refine ⟨D, L, _, sgs ls, rfl, hd3, .inr ⟨ls, rfl, rfl⟩, by rw [sgs_len]; exact hpos, by rw [sgs_len]; omega, fun x H4 hx kp4 hd4 => ?_⟩
      obtain ⟨c, hc, rfl⟩ := List.mem_map.mp hx
      have he4 := kp4 _ _ he eD eL
      refine ⟨_, he4, by rw [sgs_len]; exact small1000 (by omega), t ++ [c], by simp [ht], ?_, (kp3.trans kp4).mut ne, ?_, ?_⟩
      · intro d hd'
        rcases List.mem_append.mp hd' with h | h
        · exact hmem d h
        · rw [List.mem_singleton.mp h]; exact hc
      · obtain ⟨c1, m1, a1, a2, a3⟩ := hd4
        exact ⟨c1, m1, by rw [upd_ne eD.symm]; exact a1, by rw [upd_ne eL.symm]; exact a2, a3⟩
      · rw [upd_same]
        unfold sgs
        rw [List.map_append]
        rfl
    · rintro H3 ⟨t, ht, hmem, kp3, hd3, he⟩
      walk_at "rds"
      refine rd_joinX (ls := t.map fun c => [c]) (SqL.of (by rw [he, List.map_map]; rfl)) ?_ ?_
      · have : (List.map List.length (t.map fun c => [c])).sum = t.length := by
          rw [List.map_map]
          have : (List.length ∘ fun c : Nat => [c]) = fun _ => 1 := rfl
          rw [this, List.map_const', List.sum_replicate_nat]
          omega
        rw [this]
        omega
      · rw [flat_ones]
        exact q t _ hmem (by omega) (kp.trans kp3) hd3
end

--X check_letters
--G _law_errors_right
--G _law_keeps_itself
--G law
--E law
section
variable {P : Program} {w : World} {K : PySem.W.Frag} {mg : Str → Option Value} {base : Heap}
theorem sz_of' {n : Nat} (h : n ≤ 1000) : n ≤ sizeLine := Nat.le_of_lt (small1000 h)
def consB (cs u : List Nat) : Bool := u.all fun c => decide (c ∈ cs)
def spCons : Sp := fun vs H Q _ => ∃ cs u : List Nat, vs = [.str (tx cs), .str (tx u)] ∧ u.length ≤ 1000 ∧ ∀ H', Same H H' → Q (.bl (consB cs u)) H'
theorem cl_cons (T : Txt K mg) : Cl P w K mg base "_consists_of" ["characters", "text"] 1 spCons := cl_of T.a__consists_of fun f fd F => by
  refine F.ok sc__consists_of (fun vs H Q E h => ?_) (fun cdv A outer s H vs Q E hr h => ?_)
  · obtain ⟨cs, u, rfl, _⟩ := h
    rfl
  · obtain ⟨cs, u, rfl, hl, q⟩ := h
    refine ⟨_, (pss_one (ps_ret (pe_callB (cr_all rfl) (by rfl) T.m_all (by decide +kernel) (pa_cons (pe_lc (own := [("character", 2)]) (g := gName 2) (tt := tYes) (by rfl) sc__consists_of.nd (pi_str (pv 1)) (blkOk_by (own := [("character", 2)]) (N := n__consists_of) (sc := defScope s__consists_of) (by decide +kernel)) (fun _ _ _ _ _ => (pg_name (i := 2) sc__consists_of.nd rfl (Or.inl rfl))) (fun _ _ _ _ _ => pts_nil) (fun _ _ _ _ _ => (pe_cmpR op_inX (pv 2) (pv 0) (by rfl)))) pa_nil)))), ?_⟩
    walk_at "rds"
    refine fun e ne => lc_text (l := u) (fun i H' => Same H H' ∧ H' e = some (.lst (((u.take i).map fun c => decide (c ∈ cs)).map V.bl))) ⟨same_upd ne, upd_same⟩ ?_ ?_
    · rintro i c H' hc ⟨sH, he⟩
      have hi : i < u.length := (List.getElem?_eq_some_iff.mp hc).1
      walk_at "rds"
      refine ⟨rfl, ?_⟩
      walk_at "rds"
      refine rd_ite (fun _ => ?_) (fun h => by cases h)
      walk_at "rds"
      refine ⟨_, he, by rw [List.length_map, List.length_map, List.length_take]; exact small1000 (by omega), same_mut sH ne, ?_⟩
      rw [upd_same, take_snoc _ hc, List.map_append]
      rfl
    · rintro H' ⟨sH, he⟩
      rw [List.take_length] at he
      walk_at "rds"
      refine rd_all (SqL.of he) ?_
      have e1 : (u.map fun c => decide (c ∈ cs)).all id = consB cs u := by unfold consB; rw [List.all_map]; rfl
      rw [e1]
      exact q _ sH
def ascB (u : List Nat) : Bool := (u.zip (u.drop 1)).all fun p => decide ([p.1] < [p.2])
def spAsc : Sp := fun vs H Q _ => ∃ u : List Nat, vs = [.str (tx u)] ∧ u.length ≤ 1000 ∧ ∀ H', Same H H' → Q (.bl (ascB u)) H'
theorem cl_asc (T : Txt K mg) : Cl P w K mg base "_ascends" ["text"] 1 spAsc := cl_of T.a__ascends fun f fd F => by
  refine F.ok sc__ascends (fun vs H Q E h => ?_) (fun cdv A outer s H vs Q E hr h => ?_)
  · obtain ⟨u, rfl, _⟩ := h
    rfl
  · obtain ⟨u, rfl, hl, q⟩ := h
    refine ⟨_, (pss_one (ps_ret (pe_callB (cr_all rfl) (by rfl) T.m_all (by decide +kernel) (pa_cons (pe_lc (own := [("one", 1), ("other", 2)]) (g := gTup K 2 (gCons (gName 1) (gCons (gName 2) gNil))) (tt := tYes) (by rfl) sc__ascends.nd (pi_zipS (by rfl) T.m_zip (pa_cons (pv 0) (pa_cons (pe_slice sl_strX (pv 0) (po_some pe_int) po_none) pa_nil))) (blkOk_by (own := [("one", 1), ("other", 2)]) (N := n__ascends) (sc := defScope s__ascends) (by decide +kernel)) (fun _ _ _ _ _ => by exact (pg_tup rfl (pgs_cons (pg_name (i := 1) sc__ascends.nd rfl (Or.inl rfl)) (pgs_cons (pg_name (i := 2) sc__ascends.nd rfl (Or.inl rfl)) pgs_nil)))) (fun _ _ _ _ _ => pts_nil) (fun _ _ _ _ _ => (pe_cmpR op_ltX (pv 1) (pv 2) (nomark _)))) pa_nil)))), ?_⟩
    walk_at "rds"
    refine rd_slX (sz_of' hl) ?_
    have e0 : cutL u (some 1) none = u.drop 1 := by
      show cutL u (some ((1 : Nat) : Int)) none = _
      unfold cutL
      rw [HT.sIx_none, HT.sIx_nat]
      rcases u with _ | ⟨c, u⟩
      · rfl
      · have e3 : min 1 (c :: u).length = 1 := by simp
        rw [e3]
        simp
    rw [e0]
    walk_at "rds"
    refine fun e ne => lc_zip (l := u) (m := u.drop 1) (fun i H' => Same H H' ∧ H' e = some (.lst ((((u.zip (u.drop 1)).take i).map fun p => decide ([p.1] < [p.2])).map V.bl))) ⟨same_upd ne, upd_same⟩ ?_ ?_
    · rintro i c d T' H' hc hd ⟨sH, he⟩ hT
      have hi : i < u.length := (List.getElem?_eq_some_iff.mp hc).1
      have hz : (u.zip (u.drop 1))[i]? = some (c, d) := List.getElem?_zip_eq_some.mpr ⟨hc, hd⟩
      have hne : T' ≠ e := fun z => by rw [z, he] at hT; cases hT
      refine rd_gtup (SqT.of upd_same) rfl ?_
      walk_at "rds"
      refine ⟨rfl, ?_⟩
      walk_at "rds"
      refine rd_ite (fun _ => ?_) (fun h => by cases h)
      walk_at "rds"
      refine ⟨_, by rw [upd_ne hne.symm]; exact he, ?_, ?_, ?_⟩
      · rw [List.length_map, List.length_map, List.length_take, List.length_zip]
        exact small1000 (by omega)
      · exact same_mut (fun b o hb => same_upd hT b o (sH b o hb)) ne
      · rw [upd_same, take_snoc _ hz, List.map_append]
        first | rfl | (rw [List.map_append]; rfl)
    · rintro H' ⟨sH, he⟩
      have hlen : (u.zip (u.drop 1)).length = min u.length (u.drop 1).length := List.length_zip
      rw [← hlen, List.take_length] at he
      walk_at "rds"
      refine rd_all (SqL.of he) ?_
      have e1 : ((u.zip (u.drop 1)).map fun p => decide ([p.1] < [p.2])).all id = ascB u := by unfold ascB; rw [List.all_map]; rfl
      rw [e1]
      exact q _ sH
/-- no text -/
def NotStr (K : PySem.W.Frag) (H : Hp) (x : V) : Prop := (∃ t, TyX K H x t ∧ PySem.W.kitOne K t (.type "str") = some false) ∧ ∀ z, x ≠ .str z
def TxtOr (K : PySem.W.Frag) (H : Hp) (x : V) : Prop := (∃ u, x = .str (tx u) ∧ u.length ≤ 1000) ∨ NotStr K H x
def areB (u : List Nat) : Bool := decide (2 ≤ u.length) && (decide (u.length ≤ 5) && (consB alphabet u && ascB u))
def areV : V → Bool
  | .str z => areB z.cps.toList
  | _ => false
theorem areV_tx (u : List Nat) : areV (.str (tx u)) = areB u := rfl
theorem areV_not {x : V} (h : ∀ z, x ≠ .str z) : areV x = false := by
  cases x with
  | str z => exact (h z rfl).elim
  | _ => rfl
def spAre (K : PySem.W.Frag) : Sp := fun vs H Q _ => ∃ x, vs = [x] ∧ TxtOr K H x ∧ ∀ H', Same H H' → Q (.bl (areV x)) H'
theorem same_refl (H : Hp) : Same H H := fun _ _ h => h
theorem same_trans {H H1 H2 : Hp} (a : Same H H1) (b : Same H1 H2) : Same H H2 := fun c o h => b c o (a c o h)
theorem cl_are (T : Txt K mg) : Cl P w K mg base "_are_letters" ["value"] 2 (spAre K) := cl_of T.a__are_letters fun f fd F => by
  have C__consists_of := cl_cons (P := P) (w := w) (base := base) T
  have C__ascends := cl_asc (P := P) (w := w) (base := base) T
  refine F.ok sc__are_letters (fun vs H Q E h => ?_) (fun cdv A outer s H vs Q E hr h => ?_)
  · obtain ⟨x, rfl, _⟩ := h
    rfl
  · obtain ⟨x, rfl, hx, q⟩ := h
    refine ⟨_, (pss_cons (ps_if (pt_not (pt_val (pe_callB call_isi (by rfl) T.m_isinstance (by decide +kernel) (pa_cons (pv 0) (pa_cons (pe_bltn (v := .ty "str") (by rfl) T.m_str (by decide +kernel) rfl) pa_nil)))))
      (pss_one (ps_ret pe_bl))
      pss_nil)
      (pss_cons (ps_if (pt_not (pt_chain op_le op_le (pe_gint T.c_FEWEST_LETTERS (by rfl)) (pe_callB call_lenX (by rfl) T.m_len (by decide +kernel) (pa_cons (pv 0) pa_nil)) (pe_gint T.c_MOST_LETTERS (by rfl))))
      (pss_one (ps_ret pe_bl))
      pss_nil)
      (pss_one (ps_ret (pe_and (pe_cl C__consists_of (hr.mono (by decide)) (by rfl) (pa_cons (pe_gstr T.c_CHARACTERS [45, 46, 47, 48, 49, 50, 51, 52, 53, 54, 55, 56, 57, 95, 97, 98, 99, 100, 101, 102, 103, 104, 105, 106, 107, 108, 109, 110, 111, 112, 113, 114, 115, 116, 117, 118, 119, 120, 121, 122] (by decide +kernel) (by rfl)) (pa_cons (pv 0) pa_nil))) (pe_one (pe_cl C__ascends (hr.mono (by decide)) (by rfl) (pa_cons (pv 0) pa_nil)))))))), ?_⟩
    walk_at "rds"
    rcases hx with ⟨u, rfl, hl⟩ | ⟨⟨t, ty, k⟩, hn⟩
    · rw [areV_tx] at q
      unfold areB at q
      refine rd_isi (b := true) (.base (.str _)) (kit_ty (by decide +kernel)) ?_
      walk_at "rds"
      refine rd_ite (fun h => by cases h) (fun _ => ?_)
      walk_at "rds"
      refine rd_lenX (sz_of' hl) ?_
      have e2 : decide (2 ≤ (u.length : Int)) = decide (2 ≤ u.length) := by
        rw [decide_eq_decide]
        omega
      have e5 : decide ((u.length : Int) ≤ 5) = decide (u.length ≤ 5) := by
        rw [decide_eq_decide]
        omega
      walk_at "rds"
      rw [e2]
      refine rd_ite (fun h2 => ?_) (fun h2 => ?_)
      · rw [h2, Bool.true_and] at q
        walk_at "rds"
        rw [e5]
        refine rd_ite (fun h5 => ?_) (fun h5 => ?_)
        · have h5' : decide (u.length ≤ 5) = false := by simpa using h5
          rw [h5', Bool.false_and] at q
          walk_at "rds"
          exact q _ (same_refl _)
        · have h5' : decide (u.length ≤ 5) = true := by simpa using h5
          rw [h5', Bool.true_and] at q
          walk_at "rds"
          refine ⟨alphabet, u, rfl, hl, fun H1 s1 => ?_⟩
          walk_at "rds"
          refine rd_ite (fun h => ?_) (fun h => ?_)
          · rw [h, Bool.true_and] at q
            walk_at "rds"
            exact ⟨u, rfl, hl, fun H2 s2 => q _ (same_trans s1 s2)⟩
          · rw [h, Bool.false_and] at q
            exact q _ s1
      · rw [h2, Bool.false_and] at q
        walk_at "rds"
        refine rd_ite (fun _ => ?_) (fun h => by cases h)
        walk_at "rds"
        exact q _ (same_refl _)
    · rw [areV_not hn] at q
      refine rd_isi ty k ?_
      walk_at "rds"
      refine rd_ite (fun _ => ?_) (fun h => by cases h)
      walk_at "rds"
      exact q _ (same_refl _)
def spCheck (K : PySem.W.Frag) (C : Addr) : Sp := fun vs H Q E => ∃ x, vs = [x] ∧ TxtOr K H x ∧ (areV x = true → ∀ H', Same H H' → Q (.bl true) H') ∧ (areV x = false → ∀ H', Same H H' → E (.ref C) none H')
theorem clx_check (T : Txt K mg) : ClX P w K mg base "check_letters" ["letters"] 3 (spCheck K (ca mg "InvalidLetters")) := clX_of T.a_check_letters fun f fd F => by
  have C__are_letters := cl_are (P := P) (w := w) (base := base) T
  refine F.okX sc_check_letters (fun vs H Q E h => ?_) (fun cdv A outer s H vs Q E hr h => ?_)
  · obtain ⟨x, rfl, _⟩ := h
    rfl
  · obtain ⟨x, rfl, hx, q1, q2⟩ := h
    refine ⟨_, (pss_cons (ps_if (pt_not (pt_val (pe_cl C__are_letters (hr.mono (by decide)) (by rfl) (pa_cons (pv 0) pa_nil))))
      (pss_one (ps_raise rfl (takes_of rfl rfl rfl rfl) (pmk_err0 T.e_InvalidLetters (by rfl))))
      pss_nil)
      (pss_one (ps_ret pe_bl))), ?_⟩
    walk_at "rds"
    refine ⟨x, rfl, hx, fun H1 s1 => ?_⟩
    walk_at "rds"
    refine rd_ite (fun h => ?_) (fun h => ?_)
    · exact q2 (by simpa using h) _ s1
    · walk_at "rds"
      exact q1 (by simpa using h) _ s1
def toldV (x : V) : V := if areV x = true then .bl true else .str (tx [114, 101, 102, 117, 115, 101, 100])
def spTold (K : PySem.W.Frag) : Sp := fun vs H Q _ => ∃ x, vs = [x] ∧ TxtOr K H x ∧ ∀ H', Same H H' → Q (toldV x) H'
theorem cl_told (T : Txt K mg) : Cl P w K mg base "_law_told" ["_law_value_here"] 4 (spTold K) := cl_of T.a__law_told fun f fd F => by
  have C_check_letters := clx_check (P := P) (w := w) (base := base) T
  refine F.ok sc__law_told (fun vs H Q E h => ?_) (fun cdv A outer s H vs Q E hr h => ?_)
  · obtain ⟨x, rfl, _⟩ := h
    rfl
  · obtain ⟨x, rfl, hx, q⟩ := h
    refine ⟨_, (pss_cons (ps_set (i := 1) sc__law_told.nd rfl (Or.inl rfl) pe_non)
      (pss_cons (ps_try_only rfl rfl ⟨rfl, by decide, .inl T.e_InvalidLetters.1⟩ takes0 (fun W pn xe tk _ => (pss_one (ps_set (i := 1) sc__law_told.nd rfl (Or.inl rfl) (pe_clX C_check_letters (hr.mono (by decide)) (by rfl) tk (pa_cons (pv 0) pa_nil))))) (fun a oe cls d pn _ _ => (pss_one (ps_set (i := 1) sc__law_told.nd rfl (Or.inl rfl) (pe_strX [114, 101, 102, 117, 115, 101, 100] (by decide +kernel))))))
      (pss_one (ps_ret (pv 1))))), ?_⟩
    walk_at "rds"
    refine ⟨x, rfl, hx, fun ha H1 s1 => ?_, fun ha H1 s1 => ?_⟩
    · walk_at "rds"
      have e : toldV x = .bl true := if_pos ha
      rw [← e]
      exact q _ s1
    · refine ⟨true, T.e_InvalidLetters.2.1.ex, fun _ a na => ?_, fun h => by cases h⟩
      walk_at "rds"
      have e : toldV x = .str (tx [114, 101, 102, 117, 115, 101, 100]) := if_neg (by rw [ha]; decide)
      rw [← e]
      exact q _ s1
def isTxtB (ls : List Nat) : V → Bool
  | .str z => consB ls z.cps.toList
  | _ => false
theorem isTxt_not {ls : List Nat} {x : V} (h : ∀ z, x ≠ .str z) : isTxtB ls x = false := by
  cases x with
  | str z => exact (h z rfl).elim
  | _ => rfl
def spIsTxt (K : PySem.W.Frag) : Sp := fun vs H Q _ => ∃ (ls : List Nat) (x : V), vs = [.str (tx ls), x] ∧ TxtOr K H x ∧ ∀ H', Same H H' → Q (.bl (isTxtB ls x)) H'
theorem cl_is_text (T : Txt K mg) : Cl P w K mg base "is_text" ["letters", "value"] 2 (spIsTxt K) := cl_of T.a_is_text fun f fd F => by
  have C__consists_of := cl_cons (P := P) (w := w) (base := base) T
  refine F.ok sc_is_text (fun vs H Q E h => ?_) (fun cdv A outer s H vs Q E hr h => ?_)
  · obtain ⟨ls, x, rfl, _⟩ := h
    rfl
  · obtain ⟨ls, x, rfl, hx, q⟩ := h
    refine ⟨_, (pss_one (ps_ret (pe_and (pe_callB call_isi (by rfl) T.m_isinstance (by decide +kernel) (pa_cons (pv 1) (pa_cons (pe_bltn (v := .ty "str") (by rfl) T.m_str (by decide +kernel) rfl) pa_nil))) (pe_one (pe_cl C__consists_of (hr.mono (by decide)) (by rfl) (pa_cons (pv 0) (pa_cons (pv 1) pa_nil))))))), ?_⟩
    walk_at "rds"
    rcases hx with ⟨u, rfl, hl⟩ | ⟨⟨t, ty, k⟩, hn⟩
    · refine rd_isi (b := true) (.base (.str _)) (kit_ty (by decide +kernel)) ?_
      walk_at "rds"
      refine rd_ite (fun _ => ?_) (fun h => by cases h)
      walk_at "rds"
      exact ⟨ls, u, rfl, hl, q⟩
    · rw [isTxt_not hn] at q
      refine rd_isi ty k ?_
      walk_at "rds"
      refine rd_ite (fun h => by cases h) (fun _ => ?_)
      exact q _ (same_refl _)
end
section
variable {P : Program} {w : World} {K : PySem.W.Frag} {mg : Str → Option Value} {base : Heap}
theorem dp_txt {H : Hp} {x : V} {d : PyData} (h : Dp K H x d) (hz : ∀ z, d = .str z → z.cps.toList.length ≤ 1000) : TxtOr K H x := by
  cases h with
  | non => exact .inr ⟨⟨_, .base .non, kit_ty (by decide +kernel)⟩, fun z e => by cases e⟩
  | bl b => exact .inr ⟨⟨_, .base (.bl b), kit_ty (by decide +kernel)⟩, fun z e => by cases e⟩
  | int i => exact .inr ⟨⟨_, .base (.int i), kit_ty (by decide +kernel)⟩, fun z e => by cases e⟩
  | str z => exact .inl ⟨z.cps.toList, by rw [tx_of], hz z rfl⟩
  | lst h1 _ =>
    refine .inr ⟨?_, fun z e => by cases e⟩
    rcases h1 with (h | ⟨o, h⟩) | ⟨o, _, _, h, c, _⟩
    · exact ⟨_, .base (.lst h), kit_ty (by decide +kernel)⟩
    · exact ⟨_, .base (.frz h), kit_ty (by decide +kernel)⟩
    · exact ⟨_, .kList h c, kit_ty (by decide +kernel)⟩
  | tup h1 _ =>
    refine .inr ⟨?_, fun z e => by cases e⟩
    rcases h1 with (h | ⟨o, h⟩) | ⟨o, _, _, h, c, _⟩
    · exact ⟨_, .base (.tup h), kit_ty (by decide +kernel)⟩
    · exact ⟨_, .fTuple h, kit_ty (by decide +kernel)⟩
    · exact ⟨_, .kTuple h c, kit_ty (by decide +kernel)⟩
def valDs : List PyData := [.none, .bool true, .int 0, .int (-7), .int (10 ^ 30), .str (tx []), .str (tx [97, 98]), .list [.int 1, .list [.str (tx [97])]], .tuple [.str (tx [97]), .tuple []], .list [], .tuple [.none]]
def spValue (K : PySem.W.Frag) : Sp := fun vs H Q _ => ∃ D L : Addr, vs = [.ref D] ∧ Deal D L H ∧ ∀ (x : V) (d : PyData) (H' : Hp), d ∈ valDs → Dp K H' x d → (∀ p, x = .ref p → p ≠ D ∧ p ≠ L) → Keep D L H H' → Deal D L H' → Q x H'
theorem cl_value (T : Txt K mg) : Cl P w K mg base "_law_value" ["_law_deal_here"] 3 (spValue K) := cl_of T.a__law_value fun f fd F => by
  have C__law_pick := cl_pick (P := P) (w := w) (base := base) T
  refine F.ok sc__law_value (fun vs H Q E h => ?_) (fun cdv A outer s H vs Q E hr h => ?_)
  · obtain ⟨D, L, rfl, _⟩ := h
    rfl
  · obtain ⟨D, L, rfl, hd, q⟩ := h
    refine ⟨_, (pss_cons (ps_set (i := 1) sc__law_value.nd rfl (Or.inl rfl) (pe_lst (pa_cons pe_non (pa_cons pe_bl (pa_cons pe_int (pa_cons (pe_op op_sub pe_int pe_int) (pa_cons (pe_op op_pow pe_int pe_int) (pa_cons (pe_strX [] (by decide +kernel)) (pa_cons (pe_strX [97, 98] (by decide +kernel)) (pa_cons (pe_lst (pa_cons pe_int (pa_cons (pe_lst (pa_cons (pe_strX [97] (by decide +kernel)) pa_nil)) pa_nil))) (pa_cons (pe_tup (pa_cons (pe_strX [97] (by decide +kernel)) (pa_cons (pe_tup pa_nil) pa_nil))) (pa_cons (pe_lst pa_nil) (pa_cons (pe_tup (pa_cons pe_non pa_nil)) pa_nil)))))))))))))
      (pss_one (ps_ret (pe_cl C__law_pick (hr.mono (by decide)) (by rfl) (pa_cons (pv 0) (pa_cons (pv 1) pa_nil)))))), ?_⟩
    walk_at "rds"
    refine rd_I (show CPow 10 30 from ⟨by decide, by decide, by decide⟩) ?_
    walk_at "rds"
    refine ⟨(by show 1 ≤ sizeLine; decide), fun p1 n1 => ?_⟩
    walk_at "rds"
    refine ⟨(by show 2 ≤ sizeLine; decide), fun p2 n2 => ?_⟩
    walk_at "rds"
    refine ⟨(by show 0 ≤ sizeLine; decide), fun p3 n3 => ?_⟩
    walk_at "rds"
    refine ⟨(by show 2 ≤ sizeLine; decide), fun p4 n4 => ?_⟩
    walk_at "rds"
    refine ⟨(by show 0 ≤ sizeLine; decide), fun p5 n5 => ?_⟩
    walk_at "rds"
    refine ⟨(by show 1 ≤ sizeLine; decide), fun p6 n6 => ?_⟩
    walk_at "rds"
    refine ⟨(by show 11 ≤ sizeLine; decide), fun p7 n7 => ?_⟩
    walk_at "rds"
    have s1 := same_upd (o := HO.lst [V.str (tx [97])]) n1
    obtain ⟨p1D, p1L⟩ := hd.new n1
    have h1 := hd.keep s1
    obtain ⟨p2D, p2L⟩ := h1.new n2
    have s2 := same_upd (o := HO.lst [V.int 1, V.ref p1]) n2
    have h2 := h1.keep s2
    obtain ⟨p3D, p3L⟩ := h2.new n3
    have s3 := same_upd (o := HO.tup []) n3
    have h3 := h2.keep s3
    obtain ⟨p4D, p4L⟩ := h3.new n4
    have s4 := same_upd (o := HO.tup [V.str (tx [97]), V.ref p3]) n4
    have h4 := h3.keep s4
    obtain ⟨p5D, p5L⟩ := h4.new n5
    have s5 := same_upd (o := HO.lst []) n5
    have h5 := h4.keep s5
    obtain ⟨p6D, p6L⟩ := h5.new n6
    have s6 := same_upd (o := HO.tup [V.non]) n6
    have h6 := h5.keep s6
    obtain ⟨p7D, p7L⟩ := h6.new n7
    have s7 := same_upd (o := HO.lst [V.non, V.bl true, V.int 0, V.int (0 - 7), V.int (10 ^ Int.toNat 30), V.str (tx []), V.str (tx [97, 98]), V.ref p2, V.ref p4, V.ref p5, V.ref p6]) n7
    have h7 := h6.keep s7
    have t6 := same_trans s6 s7
    have t5 := same_trans s5 t6
    have t4 := same_trans s4 t5
    have t3 := same_trans s3 t4
    have t2 := same_trans s2 t3
    have t1 := same_trans s1 t2
    refine ⟨D, L, _, _, rfl, h7, .inl ⟨p7, rfl, p7D, p7L, SqL.of upd_same⟩, (by show 0 < 11; decide), (by show 11 ≤ 1000; decide), fun x H' hx kp hd' => ?_⟩
    have k0 : Keep D L H H' := (Keep.of_same t1).trans kp
    have d1 : Dp K H' (.ref p1) (.list [.str (tx [97])]) := .lst (SqL.of (kp _ _ (t2 _ _ upd_same) p1D p1L)) (.cons (.str _) .nil)
    have d2 : Dp K H' (.ref p2) (.list [.int 1, .list [.str (tx [97])]]) := .lst (SqL.of (kp _ _ (t3 _ _ upd_same) p2D p2L)) (.cons (.int 1) (.cons d1 .nil))
    have d3 : Dp K H' (.ref p3) (.tuple []) := .tup (SqT.of (kp _ _ (t4 _ _ upd_same) p3D p3L)) .nil
    have d4 : Dp K H' (.ref p4) (.tuple [.str (tx [97]), .tuple []]) := .tup (SqT.of (kp _ _ (t5 _ _ upd_same) p4D p4L)) (.cons (.str _) (.cons d3 .nil))
    have d5 : Dp K H' (.ref p5) (.list []) := .lst (SqL.of (kp _ _ (t6 _ _ upd_same) p5D p5L)) .nil
    have d6 : Dp K H' (.ref p6) (.tuple [.none]) := .tup (SqT.of (kp _ _ (s7 _ _ upd_same) p6D p6L)) (.cons .non .nil)
    simp only [List.mem_cons, List.not_mem_nil, or_false] at hx
    rcases hx with rfl | rfl | rfl | rfl | rfl | rfl | rfl | rfl | rfl | rfl | rfl
    · exact q _ .none _ (by simp [valDs]) .non (fun p e => by cases e) k0 hd'
    · exact q _ (.bool true) _ (by simp [valDs]) (.bl true) (fun p e => by cases e) k0 hd'
    · exact q _ (.int 0) _ (by simp [valDs]) (.int 0) (fun p e => by cases e) k0 hd'
    · exact q _ (.int (-7)) _ (by simp [valDs]) (.int (-7)) (fun p e => by cases e) k0 hd'
    · exact q _ (.int (10 ^ 30)) _ (by simp [valDs]) (.int (10 ^ 30)) (fun p e => by cases e) k0 hd'
    · exact q _ (.str (tx [])) _ (by simp [valDs]) (.str _) (fun p e => by cases e) k0 hd'
    · exact q _ (.str (tx [97, 98])) _ (by simp [valDs]) (.str _) (fun p e => by cases e) k0 hd'
    · exact q _ _ _ (by simp [valDs]) d2 (fun p e => by cases e; exact ⟨p2D, p2L⟩) k0 hd'
    · exact q _ _ _ (by simp [valDs]) d4 (fun p e => by cases e; exact ⟨p4D, p4L⟩) k0 hd'
    · exact q _ _ _ (by simp [valDs]) d5 (fun p e => by cases e; exact ⟨p5D, p5L⟩) k0 hd'
    · exact q _ _ _ (by simp [valDs]) d6 (fun p e => by cases e; exact ⟨p6D, p6L⟩) k0 hd'
theorem val_good {d : PyData} (h : d ∈ valDs) : Good d := by
  simp only [valDs, List.mem_cons, List.not_mem_nil, or_false] at h
  rcases h with rfl | rfl | rfl | rfl | rfl | rfl | rfl | rfl | rfl | rfl | rfl <;> exact ⟨by decide +kernel, by decide +kernel, by decide +kernel, by decide +kernel⟩
theorem val_len {d : PyData} (h : d ∈ valDs) (z : Str) (e : d = .str z) : z.cps.toList.length ≤ 1000 := by
  subst e
  simp only [valDs, List.mem_cons, List.not_mem_nil, or_false, reduceCtorEq, false_or, PyData.str.injEq] at h
  rcases h with rfl | rfl <;> decide
/-! ### the errors -/
def cn : List Str := ["InvalidLetters", "InvalidMade", "InvalidBound", "InvalidZone", "InvalidRow", "InvalidProgram", "InvalidCommand", "Mismatch", "NoText", "NoValue", "NoName", "NoRow", "NoKey"]
abbrev cA (mg : Str → Option Value) (i : Nat) : Addr := ca mg (cn.getD i "UnderError")
/-- which classes are which -/
structure Kits (K : PySem.W.Frag) (mg : Str → Option Value) : Prop where
  k : ∀ i j, i < 13 → j < 13 → PySem.W.kitOne K (.ref (cA mg i)) (.ref (cA mg j)) = some (decide (i = j))
  u : ∀ i, i < 13 → PySem.W.kitOne K (.ref (cA mg i)) (.ref (ca mg "UnderError")) = some (!decide (i = 12))
  v : ∀ i, i < 13 → PySem.W.kitOne K (.ref (cA mg i)) (.type "ValueError") = some (!decide (i = 12))
  w : ∀ i, i < 13 → PySem.W.kitOne K (.ref (cA mg i)) (.type "KeyError") = some (decide (i = 12))
  o : ∀ i, i < 13 → OxC K (cA mg i)
abbrev bV (i j : Nat) : V := V.bl (decide (i = j))
def kindL (i : Nat) : List V := (List.range 13).map fun j => V.bl (decide (i = j))
def spKinds (mg : Str → Option Value) : Sp := fun vs H Q _ => ∃ (a : Addr) (i : Nat), vs = [.ref a] ∧ i < 13 ∧ IsErr H a (cA mg i) ∧ ∀ p H', Same H H' → H' p = some (.lst (kindL i)) → Q (.ref p) H'
theorem cl_kinds (T : Txt K mg) (Z : Kits K mg) : Cl P w K mg base "_law_kinds" ["_law_error"] 1 (spKinds mg) := cl_of T.a__law_kinds fun f fd F => by
  refine F.ok sc__law_kinds (fun vs H Q E h => ?_) (fun cdv A outer s H vs Q E hr h => ?_)
  · obtain ⟨a, i, rfl, _⟩ := h
    rfl
  · obtain ⟨a, i, rfl, hi, he, q⟩ := h
    refine ⟨_, (pss_cons (ps_set (i := 1) sc__law_kinds.nd rfl (Or.inl rfl) (pe_lst (pa_cons (pe_callB call_isX (by rfl) T.m_isinstance (by decide +kernel) (pa_cons (pv 0) (pa_cons (pe_cls T.e_InvalidLetters.1 (by rfl)) pa_nil))) (pa_cons (pe_callB call_isX (by rfl) T.m_isinstance (by decide +kernel) (pa_cons (pv 0) (pa_cons (pe_cls T.e_InvalidMade.1 (by rfl)) pa_nil))) (pa_cons (pe_callB call_isX (by rfl) T.m_isinstance (by decide +kernel) (pa_cons (pv 0) (pa_cons (pe_cls T.e_InvalidBound.1 (by rfl)) pa_nil))) pa_nil)))))
      (pss_cons (ps_set (i := 1) sc__law_kinds.nd rfl (Or.inl rfl) (pe_op op_cat (pv 1) (pe_lst (pa_cons (pe_callB call_isX (by rfl) T.m_isinstance (by decide +kernel) (pa_cons (pv 0) (pa_cons (pe_cls T.e_InvalidZone.1 (by rfl)) pa_nil))) (pa_cons (pe_callB call_isX (by rfl) T.m_isinstance (by decide +kernel) (pa_cons (pv 0) (pa_cons (pe_cls T.e_InvalidRow.1 (by rfl)) pa_nil))) (pa_cons (pe_callB call_isX (by rfl) T.m_isinstance (by decide +kernel) (pa_cons (pv 0) (pa_cons (pe_cls T.e_InvalidProgram.1 (by rfl)) pa_nil))) pa_nil))))))
      (pss_cons (ps_set (i := 1) sc__law_kinds.nd rfl (Or.inl rfl) (pe_op op_cat (pv 1) (pe_lst (pa_cons (pe_callB call_isX (by rfl) T.m_isinstance (by decide +kernel) (pa_cons (pv 0) (pa_cons (pe_cls T.e_InvalidCommand.1 (by rfl)) pa_nil))) (pa_cons (pe_callB call_isX (by rfl) T.m_isinstance (by decide +kernel) (pa_cons (pv 0) (pa_cons (pe_cls T.e_Mismatch.1 (by rfl)) pa_nil))) (pa_cons (pe_callB call_isX (by rfl) T.m_isinstance (by decide +kernel) (pa_cons (pv 0) (pa_cons (pe_cls T.e_NoText.1 (by rfl)) pa_nil))) pa_nil))))))
      (pss_cons (ps_set (i := 1) sc__law_kinds.nd rfl (Or.inl rfl) (pe_op op_cat (pv 1) (pe_lst (pa_cons (pe_callB call_isX (by rfl) T.m_isinstance (by decide +kernel) (pa_cons (pv 0) (pa_cons (pe_cls T.e_NoValue.1 (by rfl)) pa_nil))) (pa_cons (pe_callB call_isX (by rfl) T.m_isinstance (by decide +kernel) (pa_cons (pv 0) (pa_cons (pe_cls T.e_NoName.1 (by rfl)) pa_nil))) (pa_cons (pe_callB call_isX (by rfl) T.m_isinstance (by decide +kernel) (pa_cons (pv 0) (pa_cons (pe_cls T.e_NoRow.1 (by rfl)) pa_nil))) pa_nil))))))
      (pss_one (ps_ret (pe_op op_cat (pv 1) (pe_lst (pa_cons (pe_callB call_isX (by rfl) T.m_isinstance (by decide +kernel) (pa_cons (pv 0) (pa_cons (pe_cls T.e_NoKey.1 (by rfl)) pa_nil))) pa_nil))))))))), ?_⟩
    walk_at "rds"
    refine rd_isX he (Z.o i hi) (Z.k i 0 hi (by decide)) ?_
    walk_at "rds"
    refine rd_isX he (Z.o i hi) (Z.k i 1 hi (by decide)) ?_
    walk_at "rds"
    refine rd_isX he (Z.o i hi) (Z.k i 2 hi (by decide)) ?_
    walk_at "rds"
    refine ⟨(by show 3 ≤ sizeLine; decide), fun p1 n1 => ?_⟩
    have s1 := same_upd (o := HO.lst [bV i 0, bV i 1, bV i 2]) n1
    walk_at "rds"
    refine rd_isX (he.same s1) (Z.o i hi) (Z.k i 3 hi (by decide)) ?_
    walk_at "rds"
    refine rd_isX (he.same s1) (Z.o i hi) (Z.k i 4 hi (by decide)) ?_
    walk_at "rds"
    refine rd_isX (he.same s1) (Z.o i hi) (Z.k i 5 hi (by decide)) ?_
    walk_at "rds"
    refine ⟨(by show 3 ≤ sizeLine; decide), fun p2 n2 => ?_⟩
    have s2 := same_upd (o := HO.lst [bV i 3, bV i 4, bV i 5]) n2
    walk_at "rds"
    refine rd_cat (xs := [bV i 0, bV i 1, bV i 2]) (ys := [bV i 3, bV i 4, bV i 5]) (s2 _ _ upd_same) upd_same (sz_of' (by simp only [List.length_append, List.length_cons, List.length_nil]; omega)) fun p3 n3 => ?_
    have s3 := same_upd (o := HO.lst ([bV i 0, bV i 1, bV i 2] ++ [bV i 3, bV i 4, bV i 5])) n3
    walk_at "rds"
    have u3 := same_trans s1 (same_trans s2 s3)
    refine rd_isX (he.same u3) (Z.o i hi) (Z.k i 6 hi (by decide)) ?_
    walk_at "rds"
    refine rd_isX (he.same u3) (Z.o i hi) (Z.k i 7 hi (by decide)) ?_
    walk_at "rds"
    refine rd_isX (he.same u3) (Z.o i hi) (Z.k i 8 hi (by decide)) ?_
    walk_at "rds"
    refine ⟨(by show 3 ≤ sizeLine; decide), fun p4 n4 => ?_⟩
    have s4 := same_upd (o := HO.lst [bV i 6, bV i 7, bV i 8]) n4
    walk_at "rds"
    refine rd_cat (xs := [bV i 0, bV i 1, bV i 2, bV i 3, bV i 4, bV i 5]) (ys := [bV i 6, bV i 7, bV i 8]) (s4 _ _ upd_same) upd_same (sz_of' (by simp only [List.length_append, List.length_cons, List.length_nil]; omega)) fun p5 n5 => ?_
    have s5 := same_upd (o := HO.lst ([bV i 0, bV i 1, bV i 2, bV i 3, bV i 4, bV i 5] ++ [bV i 6, bV i 7, bV i 8])) n5
    walk_at "rds"
    have u5 := same_trans u3 (same_trans s4 s5)
    refine rd_isX (he.same u5) (Z.o i hi) (Z.k i 9 hi (by decide)) ?_
    walk_at "rds"
    refine rd_isX (he.same u5) (Z.o i hi) (Z.k i 10 hi (by decide)) ?_
    walk_at "rds"
    refine rd_isX (he.same u5) (Z.o i hi) (Z.k i 11 hi (by decide)) ?_
    walk_at "rds"
    refine ⟨(by show 3 ≤ sizeLine; decide), fun p6 n6 => ?_⟩
    have s6 := same_upd (o := HO.lst [bV i 9, bV i 10, bV i 11]) n6
    walk_at "rds"
    refine rd_cat (xs := [bV i 0, bV i 1, bV i 2, bV i 3, bV i 4, bV i 5, bV i 6, bV i 7, bV i 8]) (ys := [bV i 9, bV i 10, bV i 11]) (s6 _ _ upd_same) upd_same (sz_of' (by simp only [List.length_append, List.length_cons, List.length_nil]; omega)) fun p7 n7 => ?_
    have s7 := same_upd (o := HO.lst ([bV i 0, bV i 1, bV i 2, bV i 3, bV i 4, bV i 5, bV i 6, bV i 7, bV i 8] ++ [bV i 9, bV i 10, bV i 11])) n7
    walk_at "rds"
    have u7 := same_trans u5 (same_trans s6 s7)
    refine rd_isX (he.same u7) (Z.o i hi) (Z.k i 12 hi (by decide)) ?_
    walk_at "rds"
    refine ⟨(by show 1 ≤ sizeLine; decide), fun p8 n8 => ?_⟩
    have s8 := same_upd (o := HO.lst [bV i 12]) n8
    walk_at "rds"
    refine rd_cat (xs := [bV i 0, bV i 1, bV i 2, bV i 3, bV i 4, bV i 5, bV i 6, bV i 7, bV i 8, bV i 9, bV i 10, bV i 11]) (ys := [bV i 12]) (s8 _ _ upd_same) upd_same (sz_of' (by simp only [List.length_append, List.length_cons, List.length_nil]; omega)) fun p9 n9 => ?_
    have s9 := same_upd (o := HO.lst ([bV i 0, bV i 1, bV i 2, bV i 3, bV i 4, bV i 5, bV i 6, bV i 7, bV i 8, bV i 9, bV i 10, bV i 11] ++ [bV i 12])) n9
    walk_at "rds"
    have u9 := same_trans u7 (same_trans s8 s9)
    refine q _ _ u9 ?_
    rw [upd_same]
    rfl
end
section
variable {P : Program} {w : World} {K : PySem.W.Frag} {mg : Str → Option Value} {base : Heap}
set_option maxHeartbeats 8000000
theorem mk_InvalidMade (T : Txt K mg) : Mk P w K mg base "InvalidMade" "at" (ca mg "InvalidMade") := Un.mk_of T.e_InvalidMade fun fI fd F => by
  refine F.ok sc_InvalidMade (fun vs H Q E h => ?_) (fun cdv A outer s H vs Q E hr h => ?_)
  · obtain ⟨a, v, C, rfl, _⟩ := h
    rfl
  · obtain ⟨a, v, C, rfl, T', hno, ea, q⟩ := h
    refine ⟨_, (pss_one (ps_oxt (pv 0) (pv 1))), ?_⟩
    exact ⟨v, rfl, .ref a, rfl, a, C, rfl, T', hno, ea, fun dx h1 h2 => q dx h1 h2⟩
theorem mk_InvalidZone (T : Txt K mg) : Mk P w K mg base "InvalidZone" "at" (ca mg "InvalidZone") := Un.mk_of T.e_InvalidZone fun fI fd F => by
  refine F.ok sc_InvalidZone (fun vs H Q E h => ?_) (fun cdv A outer s H vs Q E hr h => ?_)
  · obtain ⟨a, v, C, rfl, _⟩ := h
    rfl
  · obtain ⟨a, v, C, rfl, T', hno, ea, q⟩ := h
    refine ⟨_, (pss_one (ps_oxt (pv 0) (pv 1))), ?_⟩
    exact ⟨v, rfl, .ref a, rfl, a, C, rfl, T', hno, ea, fun dx h1 h2 => q dx h1 h2⟩
theorem mk_InvalidRow (T : Txt K mg) : Mk P w K mg base "InvalidRow" "word" (ca mg "InvalidRow") := Un.mk_of T.e_InvalidRow fun fI fd F => by
  refine F.ok sc_InvalidRow (fun vs H Q E h => ?_) (fun cdv A outer s H vs Q E hr h => ?_)
  · obtain ⟨a, v, C, rfl, _⟩ := h
    rfl
  · obtain ⟨a, v, C, rfl, T', hno, ea, q⟩ := h
    refine ⟨_, (pss_one (ps_oxt (pv 0) (pv 1))), ?_⟩
    exact ⟨v, rfl, .ref a, rfl, a, C, rfl, T', hno, ea, fun dx h1 h2 => q dx h1 h2⟩
theorem mk_InvalidProgram (T : Txt K mg) : Mk P w K mg base "InvalidProgram" "at" (ca mg "InvalidProgram") := Un.mk_of T.e_InvalidProgram fun fI fd F => by
  refine F.ok sc_InvalidProgram (fun vs H Q E h => ?_) (fun cdv A outer s H vs Q E hr h => ?_)
  · obtain ⟨a, v, C, rfl, _⟩ := h
    rfl
  · obtain ⟨a, v, C, rfl, T', hno, ea, q⟩ := h
    refine ⟨_, (pss_one (ps_oxt (pv 0) (pv 1))), ?_⟩
    exact ⟨v, rfl, .ref a, rfl, a, C, rfl, T', hno, ea, fun dx h1 h2 => q dx h1 h2⟩
theorem mk_NoText (T : Txt K mg) : Mk P w K mg base "NoText" "value" (ca mg "NoText") := Un.mk_of T.e_NoText fun fI fd F => by
  refine F.ok sc_NoText (fun vs H Q E h => ?_) (fun cdv A outer s H vs Q E hr h => ?_)
  · obtain ⟨a, v, C, rfl, _⟩ := h
    rfl
  · obtain ⟨a, v, C, rfl, T', hno, ea, q⟩ := h
    refine ⟨_, (pss_one (ps_oxt (pv 0) (pv 1))), ?_⟩
    exact ⟨v, rfl, .ref a, rfl, a, C, rfl, T', hno, ea, fun dx h1 h2 => q dx h1 h2⟩
theorem mk_NoValue (T : Txt K mg) : Mk P w K mg base "NoValue" "value" (ca mg "NoValue") := Un.mk_of T.e_NoValue fun fI fd F => by
  refine F.ok sc_NoValue (fun vs H Q E h => ?_) (fun cdv A outer s H vs Q E hr h => ?_)
  · obtain ⟨a, v, C, rfl, _⟩ := h
    rfl
  · obtain ⟨a, v, C, rfl, T', hno, ea, q⟩ := h
    refine ⟨_, (pss_one (ps_oxt (pv 0) (pv 1))), ?_⟩
    exact ⟨v, rfl, .ref a, rfl, a, C, rfl, T', hno, ea, fun dx h1 h2 => q dx h1 h2⟩
theorem mk_NoName (T : Txt K mg) : Mk P w K mg base "NoName" "number" (ca mg "NoName") := Un.mk_of T.e_NoName fun fI fd F => by
  refine F.ok sc_NoName (fun vs H Q E h => ?_) (fun cdv A outer s H vs Q E hr h => ?_)
  · obtain ⟨a, v, C, rfl, _⟩ := h
    rfl
  · obtain ⟨a, v, C, rfl, T', hno, ea, q⟩ := h
    refine ⟨_, (pss_one (ps_oxt (pv 0) (pv 1))), ?_⟩
    exact ⟨v, rfl, .ref a, rfl, a, C, rfl, T', hno, ea, fun dx h1 h2 => q dx h1 h2⟩
theorem mk_NoRow (T : Txt K mg) : Mk P w K mg base "NoRow" "at" (ca mg "NoRow") := Un.mk_of T.e_NoRow fun fI fd F => by
  refine F.ok sc_NoRow (fun vs H Q E h => ?_) (fun cdv A outer s H vs Q E hr h => ?_)
  · obtain ⟨a, v, C, rfl, _⟩ := h
    rfl
  · obtain ⟨a, v, C, rfl, T', hno, ea, q⟩ := h
    refine ⟨_, (pss_one (ps_oxt (pv 0) (pv 1))), ?_⟩
    exact ⟨v, rfl, .ref a, rfl, a, C, rfl, T', hno, ea, fun dx h1 h2 => q dx h1 h2⟩
theorem mk_NoKey (T : Txt K mg) : Mk P w K mg base "NoKey" "key" (ca mg "NoKey") := Un.mk_of T.e_NoKey fun fI fd F => by
  refine F.ok sc_NoKey (fun vs H Q E h => ?_) (fun cdv A outer s H vs Q E hr h => ?_)
  · obtain ⟨a, v, C, rfl, _⟩ := h
    rfl
  · obtain ⟨a, v, C, rfl, T', hno, ea, q⟩ := h
    refine ⟨_, (pss_one (ps_oxt (pv 0) (pv 1))), ?_⟩
    exact ⟨v, rfl, .ref a, rfl, a, C, rfl, T', hno, ea, fun dx h1 h2 => q dx h1 h2⟩
theorem mkX_facts {H : Hp} {a dx C : Addr} {f : Str} {v : V} (ha : H a = none) (hd : H dx = none) (hne : dx ≠ a) :
    Same H (upd (upd (upd H a (exo a C none)) dx (exd dx [(f, v)])) a (exo a C (some dx))) ∧ ErrAt (upd (upd (upd H a (exo a C none)) dx (exd dx [(f, v)])) a (exo a C (some dx))) a C f v :=
  ⟨same_mut (same_mut (same_upd ha) hd) ha, dx, upd_same, by rw [upd_ne hne, upd_same]⟩
theorem mkN_facts {H : Hp} {a C : Addr} (ha : H a = none) : Same H (upd H a (exo a C none)) ∧ IsErr (upd H a (exo a C none)) a C := ⟨same_upd ha, none, upd_same, fun _ e => by cases e⟩
theorem for_enumL {a : Addr} {xs : List V} {g : TG} {tb : TS} {D : Ends} {σ : L2.St} {H : Hp} (Pv : Nat → L2.St → Hp → Prop) (h0 : Pv 0 σ H) (hq : ∀ i σ H, Pv i σ H → SqL K H a xs)
    (hs : ∀ (i : Nat) (x : V) (T : Addr) (σ : L2.St) (H : Hp), xs[i]? = some x → Pv i σ H → H T = none → g (.ref T) σ (upd H T (.tup [.int (i : Nat), x])) fun σ2 H2 => tb { D with nx := Pv (i + 1), ct := Pv (i + 1), bk := D.nx } σ2 H2) (hd : ∀ σ H, Pv xs.length σ H → D.nx σ H) :
    ∃ W : Nat → Nat → L2.St → Hp → Prop, (∃ m, W 0 m σ H) ∧ ∀ i m σ H, W i m σ H →
      ((Ite K a).stop i H ∧ D.nx σ H) ∨ ((Ite K a).go i H ∧ ∃ N : L2.St → Hp → Prop, (∀ σ' H', N σ' H' → ∃ m', m' < m ∧ W (i + 1) m' σ' H') ∧ ∀ v H', (Ite K a).yld i H v H' → g v σ H' fun σ2 H2 => tb { D with nx := N, ct := N, bk := D.nx } σ2 H2) := by
  refine ⟨fun i m σ H => m = xs.length - i ∧ i ≤ xs.length ∧ Pv i σ H, ⟨xs.length, rfl, Nat.zero_le _, h0⟩, ?_⟩
  rintro i m σ H ⟨rfl, hi, p⟩
  have qx := hq i σ H p
  by_cases hlt : i < xs.length
  · have hx : xs[i]? = some xs[i] := List.getElem?_eq_getElem hlt
    refine .inr ⟨⟨xs, _, qx, hx⟩, Pv (i + 1), fun σ' H' p' => ⟨xs.length - (i + 1), by omega, rfl, hlt, p'⟩, fun v H' y => ?_⟩
    obtain ⟨T, x', rfl, hT, rfl, f1⟩ := y
    exact hs i x' T σ H (f1 xs qx) p hT
  · have e : i = xs.length := by omega
    subst e
    exact .inl ⟨⟨xs, qx, Nat.le_refl _⟩, hd σ H p⟩
theorem dpAll_bl {H : Hp} : ∀ bs : List Bool, DpAll K H (bs.map V.bl) (bs.map PyData.bool)
  | [] => .nil
  | b :: bs => .cons (.bl b) (dpAll_bl bs)
def kindB (i : Nat) : List Bool := (List.range 13).map fun j => decide (i = j)
theorem kind_dp {H : Hp} (i : Nat) : DpAll K H (kindL i) ((kindB i).map PyData.bool) := by
  have e : kindL i = (kindB i).map V.bl := by
    unfold kindL kindB
    rw [List.map_map]
    rfl
  rw [e]
  exact dpAll_bl _
theorem kind_ok : ∀ i < 13, SeqAt.shaped (.list ((kindB i).map PyData.bool)) = true ∧ PyData.eqv (.list ((kindB i).map PyData.bool)) (.list ((kindB i).map PyData.bool)) = true := by decide +kernel
theorem kind_int (i : Nat) : ((List.range (13 : Int).toNat).map fun t : Nat => V.bl (decide (V.int (i : Nat) = V.int (0 + (t : Nat))))) = kindL i := by
  show (List.range 13).map _ = (List.range 13).map _
  refine List.map_congr_left fun t _ => ?_
  congr 1
  rw [decide_eq_decide]
  constructor
  · intro z
    injection z with z
    omega
  · intro z
    subst z
    rw [Int.zero_add]
def spErrs (K : PySem.W.Frag) : Sp := fun vs H Q _ => ∃ (x : V) (d : PyData), vs = [x] ∧ Dp K H x d ∧ Good d ∧ ∀ H', Same H H' → Q (.bl true) H'
theorem cl_errs (T : Txt K mg) (Z : Kits K mg) : ClG P w K mg base "_law_errors_right" ["_law_value_here"] 3 (spErrs K) := clG_of T.a__law_errors_right fun f fd F => by
  have C__law_kinds := cl_kinds (P := P) (w := w) (base := base) T Z
  have M_InvalidMade := mk_InvalidMade (P := P) (w := w) (base := base) T; have M_InvalidZone := mk_InvalidZone (P := P) (w := w) (base := base) T; have M_InvalidRow := mk_InvalidRow (P := P) (w := w) (base := base) T; have M_InvalidProgram := mk_InvalidProgram (P := P) (w := w) (base := base) T; have M_NoText := mk_NoText (P := P) (w := w) (base := base) T; have M_NoValue := mk_NoValue (P := P) (w := w) (base := base) T; have M_NoName := mk_NoName (P := P) (w := w) (base := base) T; have M_NoRow := mk_NoRow (P := P) (w := w) (base := base) T; have M_NoKey := mk_NoKey (P := P) (w := w) (base := base) T
  refine okG F sc__law_errors_right (fun vs H Q E h => ?_) (fun cdv A outer s H vs Q E hgd hr h => ?_)
  · obtain ⟨x, d, rfl, _⟩ := h
    rfl
  · obtain ⟨x, d, rfl, hx, hg, q⟩ := h
    refine ⟨_, (pss_cons (ps_par (i := 1) (j := 2) (by rfl) sc__law_errors_right.nd rfl rfl (by decide) rfl rfl (pa_cons (pe_errI M_InvalidMade (hr.mono (by decide)) (by rfl) (pv 0)) (pa_cons (pe_errI M_InvalidZone (hr.mono (by decide)) (by rfl) (pv 0)) pa_nil)) (by rfl))
      (pss_cons (ps_par (i := 3) (j := 4) (by rfl) sc__law_errors_right.nd rfl rfl (by decide) rfl rfl (pa_cons (pe_errI M_InvalidRow (hr.mono (by decide)) (by rfl) (pv 0)) (pa_cons (pe_errI M_InvalidProgram (hr.mono (by decide)) (by rfl) (pv 0)) pa_nil)) (by rfl))
      (pss_cons (ps_par3 (i := 5) (j := 6) (l := 7) (by rfl) sc__law_errors_right.nd rfl rfl rfl (by decide) (by decide) (by decide) rfl rfl rfl (pa_cons (pe_errI M_NoText (hr.mono (by decide)) (by rfl) (pv 0)) (pa_cons (pe_errI M_NoValue (hr.mono (by decide)) (by rfl) (pv 0)) (pa_cons (pe_errI M_NoKey (hr.mono (by decide)) (by rfl) (pv 0)) pa_nil))) (by rfl))
      (pss_cons (ps_par (i := 8) (j := 9) (by rfl) sc__law_errors_right.nd rfl rfl (by decide) rfl rfl (pa_cons (pe_errI M_NoName (hr.mono (by decide)) (by rfl) (pv 0)) (pa_cons (pe_errI M_NoRow (hr.mono (by decide)) (by rfl) (pv 0)) pa_nil)) (by rfl))
      (pss_cons (ps_set (i := 10) sc__law_errors_right.nd rfl (Or.inl rfl) (pe_lst (pa_cons (pe_xfl (pv 1)) (pa_cons (pe_xfl (pv 2)) (pa_cons (pe_xfl (pv 3)) (pa_cons (pe_xfl (pv 4)) (pa_cons (pe_xfl (pv 5)) pa_nil)))))))
      (pss_cons (ps_set (i := 10) sc__law_errors_right.nd rfl (Or.inl rfl) (pe_op op_cat (pv 10) (pe_lst (pa_cons (pe_xfl (pv 6)) (pa_cons (pe_xfl (pv 8)) (pa_cons (pe_xfl (pv 9)) (pa_cons (pe_xfl (pv 7)) pa_nil)))))))
      (pss_cons (ps_if (pt_cmpR (op_neD hr.units) (pe_lc (own := [("_law_one", 15)]) (g := gName 15) (by rfl) sc__law_errors_right.nd (pi_list (pv 10)) (blkOk_by (own := [("_law_one", 15)]) (N := n__law_errors_right) (sc := defScope s__law_errors_right) (by decide +kernel)) (fun _ _ _ _ _ => (pg_name (i := 15) sc__law_errors_right.nd rfl (Or.inl rfl))) (fun _ _ _ _ _ => (pts_one (pt_cmpR op_ne (pe_callB (r := rReprA K) (call_reprA hgd hr) (by rfl) T.m_repr (by decide +kernel) (pa_cons (pv 15) pa_nil)) (pe_callB (r := rReprA K) (call_reprA hgd hr) (by rfl) T.m_repr (by decide +kernel) (pa_cons (pv 0) pa_nil)) (nomark _)))) (fun _ _ _ _ _ => (pv 15))) (pe_lst pa_nil) (nomark _))
      (pss_one (ps_ret pe_bl))
      pss_nil)
      (pss_cons (ps_set (i := 11) sc__law_errors_right.nd rfl (Or.inl rfl) (pe_lst (pa_cons (pe_err0 T.e_InvalidLetters (by rfl)) (pa_cons (pv 1) (pa_cons (pe_err0 T.e_InvalidBound (by rfl)) (pa_cons (pv 2) (pa_cons (pv 3) (pa_cons (pv 4) pa_nil))))))))
      (pss_cons (ps_set (i := 11) sc__law_errors_right.nd rfl (Or.inl rfl) (pe_op op_cat (pv 11) (pe_lst (pa_cons (pe_err0 T.e_InvalidCommand (by rfl)) (pa_cons (pe_err0 T.e_Mismatch (by rfl)) (pa_cons (pv 5) (pa_cons (pv 6) (pa_cons (pv 8) pa_nil))))))))
      (Evl.pss_cut (ps_for PassesOwn.never rfl (pi_enum (by rfl) T.m_enumerate (pa_cons (pe_op op_cat (pv 11) (pe_lst (pa_cons (pv 9) (pa_cons (pv 7) pa_nil)))) pa_nil)) (pg_tup rfl (pgs_cons (pg_name (i := 12) sc__law_errors_right.nd rfl (Or.inr rfl)) (pgs_cons (pg_name (i := 13) sc__law_errors_right.nd rfl (Or.inl rfl)) pgs_nil)))
      (pss_cons (ps_if (pt_cmpR (op_neD hr.units) (pe_cl C__law_kinds (hr.mono (by decide)) (by rfl) (pa_cons (pv 13) pa_nil)) (pe_lc (own := [("_law_other", 16)]) (g := gName 16) (tt := tYes) (by rfl) sc__law_errors_right.nd (pi_range1 (by rfl) T.m_range (pa_cons pe_int pa_nil)) (blkOk_by (own := [("_law_other", 16)]) (N := n__law_errors_right) (sc := defScope s__law_errors_right) (by decide +kernel)) (fun _ _ _ _ _ => (pg_name (i := 16) sc__law_errors_right.nd rfl (Or.inl rfl))) (fun _ _ _ _ _ => pts_nil) (fun _ _ _ _ _ => (pe_cmpR op_eq (pv 12) (pv 16) (nomark _)))) (nomark _))
      (pss_one (ps_ret pe_bl))
      pss_nil)
      (pss_cons (ps_set (i := 14) sc__law_errors_right.nd rfl (Or.inl rfl) (pe_tup (pa_cons (pe_callB call_isX (by rfl) T.m_isinstance (by decide +kernel) (pa_cons (pv 13) (pa_cons (pe_cls T.e_UnderError.1 (by rfl)) pa_nil))) (pa_cons (pe_callB call_isX (by rfl) T.m_isinstance (by decide +kernel) (pa_cons (pv 13) (pa_cons (pe_bltn (v := .ty "ValueError") (by rfl) T.m_ValueError (by decide +kernel) rfl) pa_nil))) (pa_cons (pe_callB call_isX (by rfl) T.m_isinstance (by decide +kernel) (pa_cons (pv 13) (pa_cons (pe_bltn (v := .ty "KeyError") (by rfl) T.m_KeyError (by decide +kernel) rfl) pa_nil))) pa_nil)))))
      (pss_one (ps_if (pt_cmpR (op_neD hr.units) (pv 14) (pe_ix ix_list (pe_lst (pa_cons (pe_tup (pa_cons pe_bl (pa_cons pe_bl (pa_cons pe_bl pa_nil)))) (pa_cons (pe_tup (pa_cons pe_bl (pa_cons pe_bl (pa_cons pe_bl pa_nil)))) pa_nil))) (pe_callTy call_intB (by rfl) T.m_int (by decide +kernel) (pa_cons (pe_cmpR op_eq (pv 12) pe_int (nomark _)) pa_nil)) (fun _ _ => rfl)) (nomark _))
      (pss_one (ps_ret pe_bl))
      pss_nil)))))
      (pss_one (ps_ret pe_bl)))))))))))), ?_⟩
    walk_at "rds"
    refine fun a1 x1 n1 m1 d1 => ?_
    obtain ⟨s1, k1⟩ := mkX_facts (C := ca mg "InvalidMade") (f := "at") (v := x) n1 m1 d1
    generalize upd (upd (upd H a1 (exo a1 (ca mg "InvalidMade") none)) x1 (exd x1 [("at", x)])) a1 (exo a1 (ca mg "InvalidMade") (some x1)) = H1 at s1 k1 ⊢
    walk_at "rds"
    refine fun a2 x2 n2 m2 d2 => ?_
    obtain ⟨s2, k2⟩ := mkX_facts (C := ca mg "InvalidZone") (f := "at") (v := x) n2 m2 d2
    generalize upd (upd (upd H1 a2 (exo a2 (ca mg "InvalidZone") none)) x2 (exd x2 [("at", x)])) a2 (exo a2 (ca mg "InvalidZone") (some x2)) = H2 at s2 k2 ⊢
    walk_at "rds"
    refine fun a3 x3 n3 m3 d3 => ?_
    obtain ⟨s3, k3⟩ := mkX_facts (C := ca mg "InvalidRow") (f := "word") (v := x) n3 m3 d3
    generalize upd (upd (upd H2 a3 (exo a3 (ca mg "InvalidRow") none)) x3 (exd x3 [("word", x)])) a3 (exo a3 (ca mg "InvalidRow") (some x3)) = H3 at s3 k3 ⊢
    walk_at "rds"
    refine fun a4 x4 n4 m4 d4 => ?_
    obtain ⟨s4, k4⟩ := mkX_facts (C := ca mg "InvalidProgram") (f := "at") (v := x) n4 m4 d4
    generalize upd (upd (upd H3 a4 (exo a4 (ca mg "InvalidProgram") none)) x4 (exd x4 [("at", x)])) a4 (exo a4 (ca mg "InvalidProgram") (some x4)) = H4 at s4 k4 ⊢
    walk_at "rds"
    refine fun a5 x5 n5 m5 d5 => ?_
    obtain ⟨s5, k5⟩ := mkX_facts (C := ca mg "NoText") (f := "value") (v := x) n5 m5 d5
    generalize upd (upd (upd H4 a5 (exo a5 (ca mg "NoText") none)) x5 (exd x5 [("value", x)])) a5 (exo a5 (ca mg "NoText") (some x5)) = H5 at s5 k5 ⊢
    walk_at "rds"
    refine fun a6 x6 n6 m6 d6 => ?_
    obtain ⟨s6, k6⟩ := mkX_facts (C := ca mg "NoValue") (f := "value") (v := x) n6 m6 d6
    generalize upd (upd (upd H5 a6 (exo a6 (ca mg "NoValue") none)) x6 (exd x6 [("value", x)])) a6 (exo a6 (ca mg "NoValue") (some x6)) = H6 at s6 k6 ⊢
    walk_at "rds"
    refine fun a7 x7 n7 m7 d7 => ?_
    obtain ⟨s7, k7⟩ := mkX_facts (C := ca mg "NoKey") (f := "key") (v := x) n7 m7 d7
    generalize upd (upd (upd H6 a7 (exo a7 (ca mg "NoKey") none)) x7 (exd x7 [("key", x)])) a7 (exo a7 (ca mg "NoKey") (some x7)) = H7 at s7 k7 ⊢
    walk_at "rds"
    refine fun a8 x8 n8 m8 d8 => ?_
    obtain ⟨s8, k8⟩ := mkX_facts (C := ca mg "NoName") (f := "number") (v := x) n8 m8 d8
    generalize upd (upd (upd H7 a8 (exo a8 (ca mg "NoName") none)) x8 (exd x8 [("number", x)])) a8 (exo a8 (ca mg "NoName") (some x8)) = H8 at s8 k8 ⊢
    walk_at "rds"
    refine fun a9 x9 n9 m9 d9 => ?_
    obtain ⟨s9, k9⟩ := mkX_facts (C := ca mg "NoRow") (f := "at") (v := x) n9 m9 d9
    generalize upd (upd (upd H8 a9 (exo a9 (ca mg "NoRow") none)) x9 (exd x9 [("at", x)])) a9 (exo a9 (ca mg "NoRow") (some x9)) = H9 at s9 k9 ⊢
    walk_at "rds"
    have r8 := s9
    have r7 := same_trans s8 r8
    have r6 := same_trans s7 r7
    have r5 := same_trans s6 r6
    have r4 := same_trans s5 r5
    have r3 := same_trans s4 r4
    have r2 := same_trans s3 r3
    have r1 := same_trans s2 r2
    have r0 := same_trans s1 r1
    obtain ⟨y1, z1, w1⟩ := k1.same r1
    refine ⟨a1, _, y1, _, x, rfl, T.e_InvalidMade.2.1.xf, T.e_InvalidMade.2.2.1, z1, w1, by simp [List.lookup], ?_⟩
    walk_at "rds"
    obtain ⟨y2, z2, w2⟩ := k2.same r2
    refine ⟨a2, _, y2, _, x, rfl, T.e_InvalidZone.2.1.xf, T.e_InvalidZone.2.2.1, z2, w2, by simp [List.lookup], ?_⟩
    walk_at "rds"
    obtain ⟨y3, z3, w3⟩ := k3.same r3
    refine ⟨a3, _, y3, _, x, rfl, T.e_InvalidRow.2.1.xf, T.e_InvalidRow.2.2.1, z3, w3, by simp [List.lookup], ?_⟩
    walk_at "rds"
    obtain ⟨y4, z4, w4⟩ := k4.same r4
    refine ⟨a4, _, y4, _, x, rfl, T.e_InvalidProgram.2.1.xf, T.e_InvalidProgram.2.2.1, z4, w4, by simp [List.lookup], ?_⟩
    walk_at "rds"
    obtain ⟨y5, z5, w5⟩ := k5.same r5
    refine ⟨a5, _, y5, _, x, rfl, T.e_NoText.2.1.xf, T.e_NoText.2.2.1, z5, w5, by simp [List.lookup], ?_⟩
    walk_at "rds"
    refine ⟨(by show 5 ≤ sizeLine; decide), fun p1 np1 => ?_⟩
    have g1 : Same H9 (upd H9 p1 (HO.lst [x, x, x, x, x])) ∧ (upd H9 p1 (HO.lst [x, x, x, x, x])) p1 = some (HO.lst [x, x, x, x, x]) := ⟨same_upd np1, upd_same⟩
    generalize upd H9 p1 (HO.lst [x, x, x, x, x]) = G1 at g1 ⊢
    walk_at "rds"
    obtain ⟨y6, z6, w6⟩ := k6.same (same_trans r6 g1.1)
    refine ⟨a6, _, y6, _, x, rfl, T.e_NoValue.2.1.xf, T.e_NoValue.2.2.1, z6, w6, by simp [List.lookup], ?_⟩
    walk_at "rds"
    obtain ⟨y8, z8, w8⟩ := k8.same (same_trans r8 g1.1)
    refine ⟨a8, _, y8, _, x, rfl, T.e_NoName.2.1.xf, T.e_NoName.2.2.1, z8, w8, by simp [List.lookup], ?_⟩
    walk_at "rds"
    obtain ⟨y9, z9, w9⟩ := k9.same g1.1
    refine ⟨a9, _, y9, _, x, rfl, T.e_NoRow.2.1.xf, T.e_NoRow.2.2.1, z9, w9, by simp [List.lookup], ?_⟩
    walk_at "rds"
    obtain ⟨y7, z7, w7⟩ := k7.same (same_trans r7 g1.1)
    refine ⟨a7, _, y7, _, x, rfl, T.e_NoKey.2.1.xf, T.e_NoKey.2.2.1, z7, w7, by simp [List.lookup], ?_⟩
    walk_at "rds"
    refine ⟨(by show 4 ≤ sizeLine; decide), fun p2 np2 => ?_⟩
    have g2 : Same G1 (upd G1 p2 (HO.lst [x, x, x, x])) ∧ (upd G1 p2 (HO.lst [x, x, x, x])) p2 = some (HO.lst [x, x, x, x]) := ⟨same_upd np2, upd_same⟩
    generalize upd G1 p2 (HO.lst [x, x, x, x]) = G2 at g2 ⊢
    walk_at "rds"
    refine rd_cat (g2.1 _ _ g1.2) g2.2 (sz_of' (by simp only [List.length_cons, List.length_nil]; omega)) fun p3 np3 => ?_
    have g3 : Same G2 (upd G2 p3 (HO.lst ([x, x, x, x, x] ++ [x, x, x, x]))) ∧ (upd G2 p3 (HO.lst ([x, x, x, x, x] ++ [x, x, x, x]))) p3 = some (HO.lst ([x, x, x, x, x] ++ [x, x, x, x])) := ⟨same_upd np3, upd_same⟩
    generalize upd G2 p3 (HO.lst ([x, x, x, x, x] ++ [x, x, x, x])) = G3 at g3 ⊢
    walk_at "rds"
    refine ⟨_, rfl, ⟨_, SqL.of g3.2⟩, fun e ne => lc_list (K := K) (a := p3) (xs := [x, x, x, x, x] ++ [x, x, x, x]) (fun i H' => Same G3 H' ∧ H' e = some (.lst [])) ⟨same_upd ne, upd_same⟩ (fun i H' _ h => SqL.of (h.1 _ _ g3.2)) ?_ ?_⟩
    · rintro i y H' hy ⟨sm, he⟩
      have ey : y = x := by
        have := List.mem_of_getElem? hy
        simpa using this
      subst ey
      have sx : Same H H' := same_trans (same_trans r0 (same_trans g1.1 (same_trans g2.1 g3.1))) sm
      walk_at "rds"
      refine ⟨rfl, ?_⟩
      walk_at "rds"
      refine rd_reprA (Un.Dp.same sx hx) hg ?_
      walk_at "rds"
      refine rd_reprA (Un.Dp.same sx hx) hg ?_
      walk_at "rds"
      refine rd_ite (fun h => ?_) (fun _ => ⟨sm, he⟩)
      simp at h
    · rintro H' ⟨sm, he⟩
      walk_at "rds"
      refine ⟨(by show 0 ≤ sizeLine; decide), fun p4 np4 => ?_⟩
      have hne : p4 ≠ e := fun z => by rw [z, he] at np4; cases np4
      refine rd_neNilNil (SqL.of (by rw [upd_ne hne.symm]; exact he)) (SqL.of upd_same) ?_
      have g4 := same_trans sm (same_upd (o := HO.lst []) np4)
      generalize upd H' p4 (HO.lst []) = G4 at g4 ⊢
      have r10 : Same H9 G4 := same_trans g1.1 (same_trans g2.1 (same_trans g3.1 g4))
      walk_at "rds"
      refine rd_ite (fun h => by cases h) (fun _ => ?_)
      walk_at "rds"
      refine fun b1 nb1 => ?_
      obtain ⟨g5, kb1⟩ := mkN_facts (C := ca mg "InvalidLetters") nb1
      generalize upd G4 b1 (exo b1 (ca mg "InvalidLetters") none) = G5 at g5 kb1 ⊢
      walk_at "rds"
      refine fun b2 nb2 => ?_
      obtain ⟨g6, kb2⟩ := mkN_facts (C := ca mg "InvalidBound") nb2
      generalize upd G5 b2 (exo b2 (ca mg "InvalidBound") none) = G6 at g6 kb2 ⊢
      walk_at "rds"
      refine ⟨(by show 6 ≤ sizeLine; decide), fun p5 np5 => ?_⟩
      have g7 : Same G6 (upd G6 p5 (HO.lst [V.ref b1, V.ref a1, V.ref b2, V.ref a2, V.ref a3, V.ref a4])) ∧ (upd G6 p5 (HO.lst [V.ref b1, V.ref a1, V.ref b2, V.ref a2, V.ref a3, V.ref a4])) p5 = some (HO.lst [V.ref b1, V.ref a1, V.ref b2, V.ref a2, V.ref a3, V.ref a4]) := ⟨same_upd np5, upd_same⟩
      generalize upd G6 p5 (HO.lst [V.ref b1, V.ref a1, V.ref b2, V.ref a2, V.ref a3, V.ref a4]) = G7 at g7 ⊢
      walk_at "rds"
      refine fun b3 nb3 => ?_
      obtain ⟨g8, kb3⟩ := mkN_facts (C := ca mg "InvalidCommand") nb3
      generalize upd G7 b3 (exo b3 (ca mg "InvalidCommand") none) = G8 at g8 kb3 ⊢
      walk_at "rds"
      refine fun b4 nb4 => ?_
      obtain ⟨g9, kb4⟩ := mkN_facts (C := ca mg "Mismatch") nb4
      generalize upd G8 b4 (exo b4 (ca mg "Mismatch") none) = G9 at g9 kb4 ⊢
      walk_at "rds"
      refine ⟨(by show 5 ≤ sizeLine; decide), fun p6 np6 => ?_⟩
      have g10 : Same G9 (upd G9 p6 (HO.lst [V.ref b3, V.ref b4, V.ref a5, V.ref a6, V.ref a8])) ∧ (upd G9 p6 (HO.lst [V.ref b3, V.ref b4, V.ref a5, V.ref a6, V.ref a8])) p6 = some (HO.lst [V.ref b3, V.ref b4, V.ref a5, V.ref a6, V.ref a8]) := ⟨same_upd np6, upd_same⟩
      generalize upd G9 p6 (HO.lst [V.ref b3, V.ref b4, V.ref a5, V.ref a6, V.ref a8]) = G10 at g10 ⊢
      walk_at "rds"
      refine rd_cat (g10.1 _ _ (g9 _ _ (g8 _ _ g7.2))) g10.2 (sz_of' (by simp only [List.length_cons, List.length_nil]; omega)) fun p7 np7 => ?_
      have g11 : Same G10 (upd G10 p7 (HO.lst ([V.ref b1, V.ref a1, V.ref b2, V.ref a2, V.ref a3, V.ref a4] ++ [V.ref b3, V.ref b4, V.ref a5, V.ref a6, V.ref a8]))) ∧ (upd G10 p7 (HO.lst ([V.ref b1, V.ref a1, V.ref b2, V.ref a2, V.ref a3, V.ref a4] ++ [V.ref b3, V.ref b4, V.ref a5, V.ref a6, V.ref a8]))) p7 = some (HO.lst ([V.ref b1, V.ref a1, V.ref b2, V.ref a2, V.ref a3, V.ref a4] ++ [V.ref b3, V.ref b4, V.ref a5, V.ref a6, V.ref a8])) := ⟨same_upd np7, upd_same⟩
      generalize upd G10 p7 (HO.lst ([V.ref b1, V.ref a1, V.ref b2, V.ref a2, V.ref a3, V.ref a4] ++ [V.ref b3, V.ref b4, V.ref a5, V.ref a6, V.ref a8])) = G11 at g11 ⊢
      walk_at "rds"
      have u11 : Same G4 G11 := same_trans g5 (same_trans g6 (same_trans g7.1 (same_trans g8 (same_trans g9 (same_trans g10.1 g11.1)))))
      have ub1 : Same G5 G11 := same_trans g6 (same_trans g7.1 (same_trans g8 (same_trans g9 (same_trans g10.1 g11.1))))
      have ub2 : Same G6 G11 := same_trans g7.1 (same_trans g8 (same_trans g9 (same_trans g10.1 g11.1)))
      have ub3 : Same G8 G11 := same_trans g9 (same_trans g10.1 g11.1)
      have ub4 : Same G9 G11 := same_trans g10.1 g11.1
      have v11 : Same H9 G11 := same_trans r10 u11
      have w11 : Same H G11 := same_trans r0 v11
      have q1 : IsErr G11 a1 _ := k1.is.same (same_trans r1 v11)
      have q2 : IsErr G11 a2 _ := k2.is.same (same_trans r2 v11)
      have q3 : IsErr G11 a3 _ := k3.is.same (same_trans r3 v11)
      have q4 : IsErr G11 a4 _ := k4.is.same (same_trans r4 v11)
      have q5 : IsErr G11 a5 _ := k5.is.same (same_trans r5 v11)
      have q6 : IsErr G11 a6 _ := k6.is.same (same_trans r6 v11)
      have q7 : IsErr G11 a7 _ := k7.is.same (same_trans r7 v11)
      have q8 : IsErr G11 a8 _ := k8.is.same (same_trans r8 v11)
      have q9 : IsErr G11 a9 _ := k9.is.same v11
      have o1 : IsErr G11 b1 _ := kb1.same ub1
      have o2 : IsErr G11 b2 _ := kb2.same ub2
      have o3 : IsErr G11 b3 _ := kb3.same ub3
      have o4 : IsErr G11 b4 _ := kb4.same ub4
      clear k1 k2 k3 k4 k5 k6 k7 k8 k9 kb1 kb2 kb3 kb4 s1 s2 s3 s4 s5 s6 s7 s8 s9
      refine rd_cut (fun _ H0 => Same H H0) ?_ (fun σ0 H0 s0 => ?_)
      · walk_at "rds"
        refine ⟨(by show 2 ≤ sizeLine; decide), fun p8 np8 => ?_⟩
        have g12 : Same G11 (upd G11 p8 (HO.lst [V.ref a9, V.ref a7])) ∧ (upd G11 p8 (HO.lst [V.ref a9, V.ref a7])) p8 = some (HO.lst [V.ref a9, V.ref a7]) := ⟨same_upd np8, upd_same⟩
        generalize upd G11 p8 (HO.lst [V.ref a9, V.ref a7]) = G12 at g12 ⊢
        walk_at "rds"
        refine rd_cat (g12.1 _ _ g11.2) g12.2 (sz_of' (by simp only [List.length_cons, List.length_nil, List.length_append]; omega)) fun p9 np9 => ?_
        have g13 : Same G12 (upd G12 p9 (HO.lst (([V.ref b1, V.ref a1, V.ref b2, V.ref a2, V.ref a3, V.ref a4] ++ [V.ref b3, V.ref b4, V.ref a5, V.ref a6, V.ref a8]) ++ [V.ref a9, V.ref a7]))) ∧ (upd G12 p9 (HO.lst (([V.ref b1, V.ref a1, V.ref b2, V.ref a2, V.ref a3, V.ref a4] ++ [V.ref b3, V.ref b4, V.ref a5, V.ref a6, V.ref a8]) ++ [V.ref a9, V.ref a7]))) p9 = some (HO.lst (([V.ref b1, V.ref a1, V.ref b2, V.ref a2, V.ref a3, V.ref a4] ++ [V.ref b3, V.ref b4, V.ref a5, V.ref a6, V.ref a8]) ++ [V.ref a9, V.ref a7])) := ⟨same_upd np9, upd_same⟩
        generalize upd G12 p9 (HO.lst (([V.ref b1, V.ref a1, V.ref b2, V.ref a2, V.ref a3, V.ref a4] ++ [V.ref b3, V.ref b4, V.ref a5, V.ref a6, V.ref a8]) ++ [V.ref a9, V.ref a7])) = G13 at g13 ⊢
        walk_at "rds"
        have sG : Same G11 G13 := same_trans g12.1 g13.1
        have hall : ∀ (i : Nat) (y : V), ((([V.ref b1, V.ref a1, V.ref b2, V.ref a2, V.ref a3, V.ref a4] ++ [V.ref b3, V.ref b4, V.ref a5, V.ref a6, V.ref a8]) ++ [V.ref a9, V.ref a7]) : List V)[i]? = some y → i < 13 ∧ ∃ a, y = .ref a ∧ IsErr G13 a (cA mg i) := by
          intro i y h
          rcases i with _ | _ | _ | _ | _ | _ | _ | _ | _ | _ | _ | _ | _ | i
          · have h1 : some (V.ref b1) = some y := h
            cases h1
            exact ⟨by decide, _, rfl, o1.same sG⟩
          · have h1 : some (V.ref a1) = some y := h
            cases h1
            exact ⟨by decide, _, rfl, q1.same sG⟩
          · have h1 : some (V.ref b2) = some y := h
            cases h1
            exact ⟨by decide, _, rfl, o2.same sG⟩
          · have h1 : some (V.ref a2) = some y := h
            cases h1
            exact ⟨by decide, _, rfl, q2.same sG⟩
          · have h1 : some (V.ref a3) = some y := h
            cases h1
            exact ⟨by decide, _, rfl, q3.same sG⟩
          · have h1 : some (V.ref a4) = some y := h
            cases h1
            exact ⟨by decide, _, rfl, q4.same sG⟩
          · have h1 : some (V.ref b3) = some y := h
            cases h1
            exact ⟨by decide, _, rfl, o3.same sG⟩
          · have h1 : some (V.ref b4) = some y := h
            cases h1
            exact ⟨by decide, _, rfl, o4.same sG⟩
          · have h1 : some (V.ref a5) = some y := h
            cases h1
            exact ⟨by decide, _, rfl, q5.same sG⟩
          · have h1 : some (V.ref a6) = some y := h
            cases h1
            exact ⟨by decide, _, rfl, q6.same sG⟩
          · have h1 : some (V.ref a8) = some y := h
            cases h1
            exact ⟨by decide, _, rfl, q8.same sG⟩
          · have h1 : some (V.ref a9) = some y := h
            cases h1
            exact ⟨by decide, _, rfl, q9.same sG⟩
          · have h1 : some (V.ref a7) = some y := h
            cases h1
            exact ⟨by decide, _, rfl, q7.same sG⟩
          · have h1 : (none : Option V) = some y := h
            cases h1
        refine ⟨p9, _, rfl, SqL.of g13.2, for_enumL (xs := ([V.ref b1, V.ref a1, V.ref b2, V.ref a2, V.ref a3, V.ref a4] ++ [V.ref b3, V.ref b4, V.ref a5, V.ref a6, V.ref a8]) ++ [V.ref a9, V.ref a7]) (fun i σ1 H1 => Same G13 H1 ∧ ∃ y12 y13 y14 y15 y16, σ1 = [some x, some (V.ref a1), some (V.ref a2), some (V.ref a3), some (V.ref a4), some (V.ref a5), some (V.ref a6), some (V.ref a7), some (V.ref a8), some (V.ref a9), some (V.ref p3), some (V.ref p7), y12, y13, y14, y15, y16]) ⟨same_refl _, _, _, _, _, _, rfl⟩ (fun i σ1 H1 h => SqL.of (h.1 _ _ g13.2)) ?_ (fun σ1 H1 h => same_trans w11 (same_trans sG h.1))⟩
        rintro i y T' σ1 H1 hy ⟨sm, y12, y13, y14, y15, y16, rfl⟩ hT
        obtain ⟨hi, a, rfl, hea⟩ := hall i y hy
        refine rd_gtup (SqT.of upd_same) rfl ?_
        walk_at "rds"
        have sT := same_trans sm (same_upd (o := HO.tup [V.int (i : Nat), V.ref a]) hT)
        generalize upd H1 T' (HO.tup [V.int (i : Nat), V.ref a]) = J0 at sT ⊢
        refine ⟨a, i, rfl, hi, hea.same sT, fun pk Hk sk ek => ?_⟩
        walk_at "rds"
        refine ⟨13, rfl, by decide, by decide, fun e ne => lc_range (lo := 0) (n := (13 : Int).toNat) (fun j H2 => Same Hk H2 ∧ H2 e = some (.lst ((List.range j).map fun t => V.bl (decide (V.int (i : Nat) = V.int (0 + (t : Nat))))))) ⟨same_upd ne, upd_same⟩ ?_ ?_⟩
        · rintro j H2 hj ⟨s2, e2⟩
          walk_at "rds"
          refine ⟨rfl, ?_⟩
          walk_at "rds"
          refine rd_ite (fun _ => ?_) (fun h => by cases h)
          walk_at "rds"
          refine ⟨_, e2, ?_, same_mut s2 ne, ?_⟩
          · rw [List.length_map, List.length_range]
            exact small1000 (by have : (13 : Int).toNat = 13 := rfl; omega)
          · rw [upd_same, List.range_succ, List.map_append]
            rfl
        · rintro H2 ⟨s2, e2⟩
          have ed : ((List.range (13 : Int).toNat).map fun t : Nat => V.bl (decide (V.int (i : Nat) = V.int (0 + (t : Nat))))) = kindL i := kind_int i
          rw [ed] at e2
          walk_at "rds"
          refine ⟨_, _, .lst (SqL.of (s2 _ _ ek)) (kind_dp i), .lst (SqL.of e2) (kind_dp i), (kind_ok i hi).1, (kind_ok i hi).1, ?_⟩
          rw [(kind_ok i hi).2]
          walk_at "rds"
          refine rd_ite (fun h => by cases h) (fun _ => ?_)
          walk_at "rds"
          have sX : Same G13 H2 := same_trans sT (same_trans sk s2)
          refine rd_isX (hea.same sX) (Z.o i hi) (Z.u i hi) ?_
          walk_at "rds"
          refine rd_isXT (hea.same sX) (Z.o i hi) (Z.v i hi) ?_
          walk_at "rds"
          refine rd_isXT (hea.same sX) (Z.o i hi) (Z.w i hi) ?_
          walk_at "rds"
          refine ⟨(by show 3 ≤ sizeLine; decide), fun pp npp => ?_⟩
          have g14 : Same H2 (upd H2 pp (HO.tup [V.bl (!decide (i = 12)), V.bl (!decide (i = 12)), V.bl (decide (i = 12))])) ∧ (upd H2 pp (HO.tup [V.bl (!decide (i = 12)), V.bl (!decide (i = 12)), V.bl (decide (i = 12))])) pp = some (HO.tup [V.bl (!decide (i = 12)), V.bl (!decide (i = 12)), V.bl (decide (i = 12))]) := ⟨same_upd npp, upd_same⟩
          generalize upd H2 pp (HO.tup [V.bl (!decide (i = 12)), V.bl (!decide (i = 12)), V.bl (decide (i = 12))]) = J1 at g14 ⊢
          walk_at "rds"
          refine ⟨(by show 3 ≤ sizeLine; decide), fun t1 nt1 => ?_⟩
          have g15 : Same J1 (upd J1 t1 (HO.tup [V.bl true, V.bl true, V.bl false])) ∧ (upd J1 t1 (HO.tup [V.bl true, V.bl true, V.bl false])) t1 = some (HO.tup [V.bl true, V.bl true, V.bl false]) := ⟨same_upd nt1, upd_same⟩
          generalize upd J1 t1 (HO.tup [V.bl true, V.bl true, V.bl false]) = J2 at g15 ⊢
          walk_at "rds"
          refine ⟨(by show 3 ≤ sizeLine; decide), fun t2 nt2 => ?_⟩
          have g16 : Same J2 (upd J2 t2 (HO.tup [V.bl false, V.bl false, V.bl true])) ∧ (upd J2 t2 (HO.tup [V.bl false, V.bl false, V.bl true])) t2 = some (HO.tup [V.bl false, V.bl false, V.bl true]) := ⟨same_upd nt2, upd_same⟩
          generalize upd J2 t2 (HO.tup [V.bl false, V.bl false, V.bl true]) = J3 at g16 ⊢
          walk_at "rds"
          refine ⟨(by show 2 ≤ sizeLine; decide), fun t3 nt3 => ?_⟩
          have g17 : Same J3 (upd J3 t3 (HO.lst [V.ref t1, V.ref t2])) ∧ (upd J3 t3 (HO.lst [V.ref t1, V.ref t2])) t3 = some (HO.lst [V.ref t1, V.ref t2]) := ⟨same_upd nt3, upd_same⟩
          generalize upd J3 t3 (HO.lst [V.ref t1, V.ref t2]) = J4 at g17 ⊢
          walk_at "rds"
          have sE : Same G13 J4 := same_trans sX (same_trans g14.1 (same_trans g15.1 (same_trans g16.1 g17.1)))
          have f1 : J4 pp = _ := g17.1 _ _ (g16.1 _ _ (g15.1 _ _ g14.2))
          have f2 : J4 t1 = _ := g17.1 _ _ (g16.1 _ _ g15.2)
          have f3 : J4 t2 = _ := g17.1 _ _ g16.2
          by_cases h12 : i = 12
          · subst h12
            refine rd_ixL (v := V.ref t2) (SqL.of g17.2) rfl ?_
            refine ⟨.tuple [.bool false, .bool false, .bool true], .tuple [.bool false, .bool false, .bool true], .tup (SqT.of f1) (.cons (.bl _) (.cons (.bl _) (.cons (.bl _) .nil))), .tup (SqT.of f3) (.cons (.bl _) (.cons (.bl _) (.cons (.bl _) .nil))), by decide +kernel, by decide +kernel, ?_⟩
            have ee : PyData.eqv (.tuple [.bool false, .bool false, .bool true]) (.tuple [.bool false, .bool false, .bool true]) = true := by decide +kernel
            rw [ee]
            walk_at "rds"
            refine rd_ite (fun h => by cases h) (fun _ => ⟨sE, _, _, _, _, _, rfl⟩)
          · have h1 : decide (V.int ((i : Nat) : Int) = V.int 12) = false := decide_eq_false fun z => h12 (by injection z with z; omega)
            have h2 : decide (i = 12) = false := decide_eq_false h12
            rw [h1]
            rw [h2] at f1
            refine rd_ixL (v := V.ref t1) (SqL.of g17.2) rfl ?_
            refine ⟨.tuple [.bool true, .bool true, .bool false], .tuple [.bool true, .bool true, .bool false], .tup (SqT.of f1) (.cons (.bl _) (.cons (.bl _) (.cons (.bl _) .nil))), .tup (SqT.of f2) (.cons (.bl _) (.cons (.bl _) (.cons (.bl _) .nil))), by decide +kernel, by decide +kernel, ?_⟩
            have ee : PyData.eqv (.tuple [.bool true, .bool true, .bool false]) (.tuple [.bool true, .bool true, .bool false]) = true := by decide +kernel
            rw [ee]
            walk_at "rds"
            refine rd_ite (fun h => by cases h) (fun _ => ⟨sE, _, _, _, _, _, rfl⟩)
      · walk_at "rds"
        exact q _ s0
end

section
variable {P : Program} {w : World} {K : PySem.W.Frag} {mg : Str → Option Value} {base : Heap}
set_option maxHeartbeats 8000000
theorem val_good5 {d : PyData} (h : d ∈ valDs) : Good (.list [d, .int 5]) := by
  simp only [valDs, List.mem_cons, List.not_mem_nil, or_false] at h
  rcases h with rfl | rfl | rfl | rfl | rfl | rfl | rfl | rfl | rfl | rfl | rfl <;> exact ⟨by decide +kernel, by decide +kernel, by decide +kernel, by decide +kernel⟩
theorem val_good6 {d : PyData} (h : d ∈ valDs) : Good (.list [.str (tx [97]), .int 6, d]) := by
  simp only [valDs, List.mem_cons, List.not_mem_nil, or_false] at h
  rcases h with rfl | rfl | rfl | rfl | rfl | rfl | rfl | rfl | rfl | rfl | rfl <;> exact ⟨by decide +kernel, by decide +kernel, by decide +kernel, by decide +kernel⟩
def spKeeps (K : PySem.W.Frag) : Sp := fun vs H Q _ => ∃ (x : V) (d : PyData), vs = [x] ∧ Dp K H x d ∧ d ∈ valDs ∧ ∀ H', Same H H' → Q (.bl true) H'
theorem cl_keeps (T : Txt K mg) : ClG P w K mg base "_law_keeps_itself" ["_law_value_here"] 3 (spKeeps K) := clG_of T.a__law_keeps_itself fun f fd F => by
  have M_InvalidMade := mk_InvalidMade (P := P) (w := w) (base := base) T; have M_InvalidZone := mk_InvalidZone (P := P) (w := w) (base := base) T; have M_InvalidRow := mk_InvalidRow (P := P) (w := w) (base := base) T; have M_InvalidProgram := mk_InvalidProgram (P := P) (w := w) (base := base) T; have M_NoText := mk_NoText (P := P) (w := w) (base := base) T; have M_NoValue := mk_NoValue (P := P) (w := w) (base := base) T; have M_NoName := mk_NoName (P := P) (w := w) (base := base) T; have M_NoRow := mk_NoRow (P := P) (w := w) (base := base) T; have M_NoKey := mk_NoKey (P := P) (w := w) (base := base) T
  refine okG F sc__law_keeps_itself (fun vs H Q E h => ?_) (fun cdv A outer s H vs Q E hgd hr h => ?_)
  · obtain ⟨x, d, rfl, _⟩ := h
    rfl
  · obtain ⟨x, d, rfl, hx, hg, q⟩ := h
    refine ⟨_, (pss_cons (ps_par (i := 1) (j := 2) (by rfl) sc__law_keeps_itself.nd rfl rfl (by decide) rfl rfl (pa_cons (pe_lst (pa_cons (pv 0) pa_nil)) (pa_cons (pe_lst (pa_cons (pe_strX [97] (by decide +kernel)) (pa_cons (pv 0) pa_nil))) pa_nil)) (by rfl))
      (pss_cons (ps_set (i := 3) sc__law_keeps_itself.nd rfl (Or.inl rfl) (pe_lst (pa_cons (pe_xfl (pe_errI M_InvalidMade (hr.mono (by decide)) (by rfl) (pv 1))) (pa_cons (pe_xfl (pe_errI M_InvalidZone (hr.mono (by decide)) (by rfl) (pv 1))) (pa_cons (pe_xfl (pe_errI M_InvalidRow (hr.mono (by decide)) (by rfl) (pv 1))) (pa_cons (pe_xfl (pe_errI M_InvalidProgram (hr.mono (by decide)) (by rfl) (pv 1))) pa_nil))))))
      (pss_cons (ps_set (i := 3) sc__law_keeps_itself.nd rfl (Or.inl rfl) (pe_op op_cat (pv 3) (pe_lst (pa_cons (pe_xfl (pe_errI M_NoText (hr.mono (by decide)) (by rfl) (pv 1))) (pa_cons (pe_xfl (pe_errI M_NoValue (hr.mono (by decide)) (by rfl) (pv 1))) (pa_cons (pe_xfl (pe_errI M_NoName (hr.mono (by decide)) (by rfl) (pv 1))) (pa_cons (pe_xfl (pe_errI M_NoRow (hr.mono (by decide)) (by rfl) (pv 1))) (pa_cons (pe_xfl (pe_errI M_NoKey (hr.mono (by decide)) (by rfl) (pv 1))) pa_nil))))))))
      (pss_cons (ps_set (i := 4) sc__law_keeps_itself.nd rfl (Or.inl rfl) (pe_errI M_NoText (hr.mono (by decide)) (by rfl) (pv 2)))
      (pss_cons (ps_expr (pe_bm PySem.F.plainAttrs_list PySem.F.slot_list_append PySem.F.type_list_append mt_append (pv 1) (pa_cons pe_int pa_nil)))
      (pss_cons (ps_expr (pe_bm PySem.F.plainAttrs_list PySem.F.slot_list_insert PySem.F.type_list_insert mt_insert (pv 2) (pa_cons pe_int (pa_cons pe_int pa_nil))))
      (pss_cons (ps_if (pt_cmpR (op_neD hr.units) (pe_lc (own := [("_law_one", 5)]) (g := gName 5) (by rfl) sc__law_keeps_itself.nd (pi_list (pv 3)) (blkOk_by (own := [("_law_one", 5)]) (N := n__law_keeps_itself) (sc := defScope s__law_keeps_itself) (by decide +kernel)) (fun _ _ _ _ _ => (pg_name (i := 5) sc__law_keeps_itself.nd rfl (Or.inl rfl))) (fun _ _ _ _ _ => (pts_one (pt_cmpR op_ne (pe_callB (r := rReprA K) (call_reprA hgd hr) (by rfl) T.m_repr (by decide +kernel) (pa_cons (pv 5) pa_nil)) (pe_callB (r := rReprA K) (call_reprA hgd hr) (by rfl) T.m_repr (by decide +kernel) (pa_cons (pe_lst (pa_cons (pv 0) (pa_cons pe_int pa_nil))) pa_nil)) (nomark _)))) (fun _ _ _ _ _ => (pv 5))) (pe_lst pa_nil) (nomark _))
      (pss_one (ps_ret pe_bl))
      pss_nil)
      (pss_one (ps_ret (pe_cmpR op_eq (pe_callB (r := rReprA K) (call_reprA hgd hr) (by rfl) T.m_repr (by decide +kernel) (pa_cons (pe_xfl (pv 4)) pa_nil)) (pe_callB (r := rReprA K) (call_reprA hgd hr) (by rfl) T.m_repr (by decide +kernel) (pa_cons (pe_lst (pa_cons (pe_strX [97] (by decide +kernel)) (pa_cons pe_int (pa_cons (pv 0) pa_nil)))) pa_nil)) (nomark _))))))))))), ?_⟩
    walk_at "rds"
    refine ⟨(by show 1 ≤ sizeLine; decide), fun pK nK => ?_⟩
    have gk : Same H (upd H pK (HO.lst [x])) ∧ (upd H pK (HO.lst [x])) pK = some (HO.lst [x]) := ⟨same_upd nK, upd_same⟩
    generalize upd H pK (HO.lst [x]) = K1 at gk ⊢
    walk_at "rds"
    refine ⟨(by show 2 ≤ sizeLine; decide), fun pM nM => ?_⟩
    have gm : Same K1 (upd K1 pM (HO.lst [V.str (tx [97]), x])) ∧ (upd K1 pM (HO.lst [V.str (tx [97]), x])) pM = some (HO.lst [V.str (tx [97]), x]) := ⟨same_upd nM, upd_same⟩
    generalize upd K1 pM (HO.lst [V.str (tx [97]), x]) = K2 at gm ⊢
    walk_at "rds"
    have c0 : Same K1 K2 := gm.1
    refine fun a1 x1 n1 m1 d1 => ?_
    obtain ⟨s1, k1⟩ := mkX_facts (C := ca mg "InvalidMade") (f := "at") (v := V.ref pK) n1 m1 d1
    generalize upd (upd (upd K2 a1 (exo a1 (ca mg "InvalidMade") none)) x1 (exd x1 [("at", V.ref pK)])) a1 (exo a1 (ca mg "InvalidMade") (some x1)) = H1 at s1 k1 ⊢
    obtain ⟨y1, z1, w1⟩ := k1
    refine ⟨a1, _, y1, _, V.ref pK, rfl, T.e_InvalidMade.2.1.xf, T.e_InvalidMade.2.2.1, z1, w1, by simp [List.lookup], ?_⟩
    walk_at "rds"
    refine fun a2 x2 n2 m2 d2 => ?_
    obtain ⟨s2, k2⟩ := mkX_facts (C := ca mg "InvalidZone") (f := "at") (v := V.ref pK) n2 m2 d2
    generalize upd (upd (upd H1 a2 (exo a2 (ca mg "InvalidZone") none)) x2 (exd x2 [("at", V.ref pK)])) a2 (exo a2 (ca mg "InvalidZone") (some x2)) = H2 at s2 k2 ⊢
    obtain ⟨y2, z2, w2⟩ := k2
    refine ⟨a2, _, y2, _, V.ref pK, rfl, T.e_InvalidZone.2.1.xf, T.e_InvalidZone.2.2.1, z2, w2, by simp [List.lookup], ?_⟩
    walk_at "rds"
    refine fun a3 x3 n3 m3 d3 => ?_
    obtain ⟨s3, k3⟩ := mkX_facts (C := ca mg "InvalidRow") (f := "word") (v := V.ref pK) n3 m3 d3
    generalize upd (upd (upd H2 a3 (exo a3 (ca mg "InvalidRow") none)) x3 (exd x3 [("word", V.ref pK)])) a3 (exo a3 (ca mg "InvalidRow") (some x3)) = H3 at s3 k3 ⊢
    obtain ⟨y3, z3, w3⟩ := k3
    refine ⟨a3, _, y3, _, V.ref pK, rfl, T.e_InvalidRow.2.1.xf, T.e_InvalidRow.2.2.1, z3, w3, by simp [List.lookup], ?_⟩
    walk_at "rds"
    refine fun a4 x4 n4 m4 d4 => ?_
    obtain ⟨s4, k4⟩ := mkX_facts (C := ca mg "InvalidProgram") (f := "at") (v := V.ref pK) n4 m4 d4
    generalize upd (upd (upd H3 a4 (exo a4 (ca mg "InvalidProgram") none)) x4 (exd x4 [("at", V.ref pK)])) a4 (exo a4 (ca mg "InvalidProgram") (some x4)) = H4 at s4 k4 ⊢
    obtain ⟨y4, z4, w4⟩ := k4
    refine ⟨a4, _, y4, _, V.ref pK, rfl, T.e_InvalidProgram.2.1.xf, T.e_InvalidProgram.2.2.1, z4, w4, by simp [List.lookup], ?_⟩
    walk_at "rds"
    refine ⟨(by show 4 ≤ sizeLine; decide), fun p1 np1 => ?_⟩
    have g1 : Same H4 (upd H4 p1 (HO.lst [V.ref pK, V.ref pK, V.ref pK, V.ref pK])) ∧ (upd H4 p1 (HO.lst [V.ref pK, V.ref pK, V.ref pK, V.ref pK])) p1 = some (HO.lst [V.ref pK, V.ref pK, V.ref pK, V.ref pK]) := ⟨same_upd np1, upd_same⟩
    generalize upd H4 p1 (HO.lst [V.ref pK, V.ref pK, V.ref pK, V.ref pK]) = L1 at g1 ⊢
    walk_at "rds"
    refine fun a5 x5 n5 m5 d5 => ?_
    obtain ⟨s5, k5⟩ := mkX_facts (C := ca mg "NoText") (f := "value") (v := V.ref pK) n5 m5 d5
    generalize upd (upd (upd L1 a5 (exo a5 (ca mg "NoText") none)) x5 (exd x5 [("value", V.ref pK)])) a5 (exo a5 (ca mg "NoText") (some x5)) = H5 at s5 k5 ⊢
    obtain ⟨y5, z5, w5⟩ := k5
    refine ⟨a5, _, y5, _, V.ref pK, rfl, T.e_NoText.2.1.xf, T.e_NoText.2.2.1, z5, w5, by simp [List.lookup], ?_⟩
    walk_at "rds"
    refine fun a6 x6 n6 m6 d6 => ?_
    obtain ⟨s6, k6⟩ := mkX_facts (C := ca mg "NoValue") (f := "value") (v := V.ref pK) n6 m6 d6
    generalize upd (upd (upd H5 a6 (exo a6 (ca mg "NoValue") none)) x6 (exd x6 [("value", V.ref pK)])) a6 (exo a6 (ca mg "NoValue") (some x6)) = H6 at s6 k6 ⊢
    obtain ⟨y6, z6, w6⟩ := k6
    refine ⟨a6, _, y6, _, V.ref pK, rfl, T.e_NoValue.2.1.xf, T.e_NoValue.2.2.1, z6, w6, by simp [List.lookup], ?_⟩
    walk_at "rds"
    refine fun a7 x7 n7 m7 d7 => ?_
    obtain ⟨s7, k7⟩ := mkX_facts (C := ca mg "NoName") (f := "number") (v := V.ref pK) n7 m7 d7
    generalize upd (upd (upd H6 a7 (exo a7 (ca mg "NoName") none)) x7 (exd x7 [("number", V.ref pK)])) a7 (exo a7 (ca mg "NoName") (some x7)) = H7 at s7 k7 ⊢
    obtain ⟨y7, z7, w7⟩ := k7
    refine ⟨a7, _, y7, _, V.ref pK, rfl, T.e_NoName.2.1.xf, T.e_NoName.2.2.1, z7, w7, by simp [List.lookup], ?_⟩
    walk_at "rds"
    refine fun a8 x8 n8 m8 d8 => ?_
    obtain ⟨s8, k8⟩ := mkX_facts (C := ca mg "NoRow") (f := "at") (v := V.ref pK) n8 m8 d8
    generalize upd (upd (upd H7 a8 (exo a8 (ca mg "NoRow") none)) x8 (exd x8 [("at", V.ref pK)])) a8 (exo a8 (ca mg "NoRow") (some x8)) = H8 at s8 k8 ⊢
    obtain ⟨y8, z8, w8⟩ := k8
    refine ⟨a8, _, y8, _, V.ref pK, rfl, T.e_NoRow.2.1.xf, T.e_NoRow.2.2.1, z8, w8, by simp [List.lookup], ?_⟩
    walk_at "rds"
    refine fun a9 x9 n9 m9 d9 => ?_
    obtain ⟨s9, k9⟩ := mkX_facts (C := ca mg "NoKey") (f := "key") (v := V.ref pK) n9 m9 d9
    generalize upd (upd (upd H8 a9 (exo a9 (ca mg "NoKey") none)) x9 (exd x9 [("key", V.ref pK)])) a9 (exo a9 (ca mg "NoKey") (some x9)) = H9 at s9 k9 ⊢
    obtain ⟨y9, z9, w9⟩ := k9
    refine ⟨a9, _, y9, _, V.ref pK, rfl, T.e_NoKey.2.1.xf, T.e_NoKey.2.2.1, z9, w9, by simp [List.lookup], ?_⟩
    walk_at "rds"
    refine ⟨(by show 5 ≤ sizeLine; decide), fun p2 np2 => ?_⟩
    have g2 : Same H9 (upd H9 p2 (HO.lst [V.ref pK, V.ref pK, V.ref pK, V.ref pK, V.ref pK])) ∧ (upd H9 p2 (HO.lst [V.ref pK, V.ref pK, V.ref pK, V.ref pK, V.ref pK])) p2 = some (HO.lst [V.ref pK, V.ref pK, V.ref pK, V.ref pK, V.ref pK]) := ⟨same_upd np2, upd_same⟩
    generalize upd H9 p2 (HO.lst [V.ref pK, V.ref pK, V.ref pK, V.ref pK, V.ref pK]) = L2 at g2 ⊢
    walk_at "rds"
    have t1 : Same L1 L2 := same_trans s5 (same_trans s6 (same_trans s7 (same_trans s8 (same_trans s9 g2.1))))
    refine rd_cat (t1 _ _ g1.2) g2.2 (sz_of' (by simp only [List.length_cons, List.length_nil]; omega)) fun p3 np3 => ?_
    have g3 : Same L2 (upd L2 p3 (HO.lst ([V.ref pK, V.ref pK, V.ref pK, V.ref pK] ++ [V.ref pK, V.ref pK, V.ref pK, V.ref pK, V.ref pK]))) ∧ (upd L2 p3 (HO.lst ([V.ref pK, V.ref pK, V.ref pK, V.ref pK] ++ [V.ref pK, V.ref pK, V.ref pK, V.ref pK, V.ref pK]))) p3 = some (HO.lst ([V.ref pK, V.ref pK, V.ref pK, V.ref pK] ++ [V.ref pK, V.ref pK, V.ref pK, V.ref pK, V.ref pK])) := ⟨same_upd np3, upd_same⟩
    generalize upd L2 p3 (HO.lst ([V.ref pK, V.ref pK, V.ref pK, V.ref pK] ++ [V.ref pK, V.ref pK, V.ref pK, V.ref pK, V.ref pK])) = L3 at g3 ⊢
    walk_at "rds"
    refine fun a10 x10 n10 m10 d10 => ?_
    obtain ⟨s10, k10⟩ := mkX_facts (C := ca mg "NoText") (f := "value") (v := V.ref pM) n10 m10 d10
    generalize upd (upd (upd L3 a10 (exo a10 (ca mg "NoText") none)) x10 (exd x10 [("value", V.ref pM)])) a10 (exo a10 (ca mg "NoText") (some x10)) = H10 at s10 k10 ⊢
    walk_at "rds"
    have u2 : Same K2 L2 := same_trans s1 (same_trans s2 (same_trans s3 (same_trans s4 (same_trans g1.1 t1))))
    have u3 : Same K2 L3 := same_trans u2 g3.1
    have u10 : Same K2 H10 := same_trans u3 s10
    have hK0 : H10 pK = some (.lst [x]) := u10 _ _ (c0 _ _ gk.2)
    have hM0 : H10 pM = some (.lst [V.str (tx [97]), x]) := u10 _ _ gm.2
    have hne : pM ≠ pK := fun z => by rw [z, gk.2] at nM; cases nM
    have h3K : p3 ≠ pK := fun z => by rw [z, u2 _ _ (c0 _ _ gk.2)] at np3; cases np3
    have h3M : p3 ≠ pM := fun z => by rw [z, u2 _ _ gm.2] at np3; cases np3
    have haK : a10 ≠ pK := fun z => by rw [z, u3 _ _ (c0 _ _ gk.2)] at n10; cases n10
    have haM : a10 ≠ pM := fun z => by rw [z, u3 _ _ gm.2] at n10; cases n10
    obtain ⟨y10, z10, w10⟩ := k10
    have hyK : y10 ≠ pK := fun z => by
      rw [z, hK0] at w10
      have z2 := Option.some.inj w10
      cases z2
    have hyM : y10 ≠ pM := fun z => by
      rw [z, hM0] at w10
      have z2 := Option.some.inj w10
      cases z2
    refine rd_tyL (SqL.of hK0) ?_
    walk_at "rds"
    refine rd_app hK0 (by show 1 < sizeLine; decide) ?_
    have b1 : Same H (upd H10 pK (HO.lst ([x] ++ [V.int 5]))) := same_mut (same_trans gk.1 (same_trans c0 u10)) nK
    have b2 : (upd H10 pK (HO.lst ([x] ++ [V.int 5]))) pK = some (HO.lst ([x] ++ [V.int 5])) := upd_same
    have b3 : (upd H10 pK (HO.lst ([x] ++ [V.int 5]))) pM = some (.lst [V.str (tx [97]), x]) := by rw [upd_ne hne]; exact hM0
    have b4 := (upd_ne (H := H10) (o := HO.lst ([x] ++ [V.int 5])) h3K).trans (s10 _ _ g3.2)
    have b5 := (upd_ne (H := H10) (o := HO.lst ([x] ++ [V.int 5])) haK).trans z10
    have b6 := (upd_ne (H := H10) (o := HO.lst ([x] ++ [V.int 5])) hyK).trans w10
    generalize upd H10 pK (HO.lst ([x] ++ [V.int 5])) = B at b1 b2 b3 b4 b5 b6 ⊢
    walk_at "rds"
    refine rd_tyL (SqL.of b3) ?_
    walk_at "rds"
    refine ⟨pM, _, 1, .int 6, rfl, rfl, b3, by show 2 < sizeLine; decide, by decide, by decide, ?_⟩
    have nM0 : H pM = none := by
      cases z : H pM with
      | none => rfl
      | some u =>
        rw [gk.1 _ _ z] at nM
        cases nM
    have e1 : List.take (1 : Int).toNat [V.str (tx [97]), x] ++ [V.int 6] ++ List.drop (1 : Int).toNat [V.str (tx [97]), x] = [V.str (tx [97]), V.int 6, x] := rfl
    rw [e1]
    have f1 : Same H (upd B pM (HO.lst [V.str (tx [97]), V.int 6, x])) := same_mut b1 nM0
    have f2 : (upd B pM (HO.lst [V.str (tx [97]), V.int 6, x])) pM = some (HO.lst [V.str (tx [97]), V.int 6, x]) := upd_same
    have f3 := (upd_ne (H := B) (o := HO.lst [V.str (tx [97]), V.int 6, x]) hne.symm).trans b2
    have f4 := (upd_ne (H := B) (o := HO.lst [V.str (tx [97]), V.int 6, x]) h3M).trans b4
    have f5 := (upd_ne (H := B) (o := HO.lst [V.str (tx [97]), V.int 6, x]) haM).trans b5
    have f6 := (upd_ne (H := B) (o := HO.lst [V.str (tx [97]), V.int 6, x]) hyM).trans b6
    generalize upd B pM (HO.lst [V.str (tx [97]), V.int 6, x]) = B2 at f1 f2 f3 f4 f5 f6 ⊢
    walk_at "rds"
    refine ⟨_, rfl, ⟨_, SqL.of f4⟩, fun e ne => lc_list (K := K) (a := p3) (xs := [V.ref pK, V.ref pK, V.ref pK, V.ref pK] ++ [V.ref pK, V.ref pK, V.ref pK, V.ref pK, V.ref pK]) (fun i H' => Same B2 H' ∧ H' e = some (.lst [])) ⟨same_upd ne, upd_same⟩ (fun i H' _ h => SqL.of (h.1 _ _ f4)) ?_ ?_⟩
    · rintro i y H' hy ⟨sm, he⟩
      have ey : y = V.ref pK := by
        have := List.mem_of_getElem? hy
        simpa using this
      subst ey
      walk_at "rds"
      refine ⟨rfl, ?_⟩
      walk_at "rds"
      refine rd_reprA (d := .list [d, .int 5]) (.lst (SqL.of (sm _ _ f3)) (.cons (Un.Dp.same (same_trans f1 sm) hx) (.cons (.int 5) .nil))) (val_good5 hg) ?_
      walk_at "rds"
      refine ⟨(by show 2 ≤ sizeLine; decide), fun p4 np4 => ?_⟩
      have hpe : p4 ≠ e := fun z => by rw [z, he] at np4; cases np4
      walk_at "rds"
      refine rd_reprA (d := .list [d, .int 5]) (.lst (SqL.of upd_same) (.cons (Un.Dp.same (same_trans (same_trans f1 sm) (same_upd np4)) hx) (.cons (.int 5) .nil))) (val_good5 hg) ?_
      walk_at "rds"
      refine rd_ite (fun h => ?_) (fun _ => ⟨same_trans sm (same_upd np4), by rw [upd_ne hpe.symm]; exact he⟩)
      simp at h
    · rintro H' ⟨sm, he⟩
      walk_at "rds"
      refine ⟨(by show 0 ≤ sizeLine; decide), fun p4 np4 => ?_⟩
      have hpe : p4 ≠ e := fun z => by rw [z, he] at np4; cases np4
      refine rd_neNilNil (SqL.of (by rw [upd_ne hpe.symm]; exact he)) (SqL.of upd_same) ?_
      have g4 := same_trans sm (same_upd (o := HO.lst []) np4)
      generalize upd H' p4 (HO.lst []) = G4 at g4 ⊢
      walk_at "rds"
      refine rd_ite (fun h => by cases h) (fun _ => ?_)
      walk_at "rds"
      refine ⟨a10, _, y10, _, V.ref pM, rfl, T.e_NoText.2.1.xf, T.e_NoText.2.2.1, g4 _ _ f5, g4 _ _ f6, by simp [List.lookup], ?_⟩
      walk_at "rds"
      refine rd_reprA (d := .list [.str (tx [97]), .int 6, d]) (.lst (SqL.of (g4 _ _ f2)) (.cons (.str _) (.cons (.int 6) (.cons (Un.Dp.same (same_trans f1 g4) hx) .nil)))) (val_good6 hg) ?_
      walk_at "rds"
      refine ⟨(by show 3 ≤ sizeLine; decide), fun p5 np5 => ?_⟩
      walk_at "rds"
      refine rd_reprA (d := .list [.str (tx [97]), .int 6, d]) (.lst (SqL.of upd_same) (.cons (.str _) (.cons (.int 6) (.cons (Un.Dp.same (same_trans (same_trans f1 g4) (same_upd np5)) hx) .nil)))) (val_good6 hg) ?_
      walk_at "rds"
      have ee : decide (V.str (PyData.list [.str (tx [97]), .int 6, d]).shown = V.str (PyData.list [.str (tx [97]), .int 6, d]).shown) = true := decide_eq_true rfl
      rw [ee]
      exact q _ (same_trans (same_trans f1 g4) (same_upd np5))
end
section
variable {P : Program} {w : World} {K : PySem.W.Frag} {mg : Str → Option Value} {base : Heap}
set_option maxHeartbeats 8000000
def tRevS (te : TE) : TE := fun σ H Q => te σ H fun x H1 => ∃ l, x = .str (tx l) ∧ l.length ≤ sizeLine ∧ Q (.str (tx l.reverse)) H1
theorem rev_picked (l : List Nat) (t1 : Tok) : ((slicePicked (tx l) none none (some (-1, t1))).filterMap ((tx l).cps[·]?)) = l.reverse := by
  show ((PySem.sliceRange (((tx l).length : Int) - 1) (-1) (-1)).filterMap ((tx l).cps[·]?)) = l.reverse
  rw [PySem.W.krv_sliceRange, PySem.W.krv_range, List.filterMap_reverse]
  have e : (List.range (tx l).length).filterMap ((tx l).cps[·]?) = (tx l).cps.toList := PySem.W.krv_all _
  rw [e, tx_cps]
theorem pe_revS {X : Cx} {e : Expr} {te : TE} {k : Nat} {p1 p2 p3 pos : Pos} (he : PE X e te) : PE X (.Subscript e (.Slice none none (some (.UnaryOp .USub (.Constant (.int 1) k p1) p2)) p3) pos) (tRevS te) := by
  refine ⟨fun pins s σ H Q I h => ?_⟩
  refine Subscript_ (thn (he.run pins s σ H _ I h) fun v s1 ⟨x, H1, I1, r1, q1⟩ => ?_)
  obtain ⟨z, ex, hz, q⟩ := q1
  subst ex
  obtain ⟨t, rfl⟩ := r1
  have hst : PO X (some (.UnaryOp .USub (.Constant (.int 1) k p1) p2)) (tPart (tUn (rU fun i => .int (-i)) (tC (.int 1)))) := po_some (pe_un un_neg pe_int)
  refine wpAny_Slice (thn (po_none.run pins s1 σ H1 (fun o H2 => o = none ∧ H2 = H1) I1 ⟨rfl, rfl⟩) fun vl s2 ⟨l, H2, I2, pl, el, e2⟩ => ?_)
  subst el e2
  refine thn (po_none.run pins s2 σ H2 (fun o H3 => o = none ∧ H3 = H2) I2 ⟨rfl, rfl⟩) fun vu s3 ⟨u, H3, I3, pu, eu, e3⟩ => ?_
  subst eu e3
  refine thn (hst.run pins s3 σ H3 (fun o H4 => o = some (-1) ∧ H4 = H3) I3 ⟨1, rfl, -1, rfl, rfl, rfl⟩) fun vs s4 ⟨o, H4, I4, ps, eo, e4⟩ => ?_
  subst eo e4
  have I5 : Inv X pins σ H4 { s4 with heap := s4.heap.push { cls := .type "slice", data := .fields #[vl, vu, vs] } } := I4.kept (t' := s4.toks) fun b ob q => Heap.get?_push_of_some _ q
  obtain ⟨a1, rfl, f1⟩ := IsPart.raw pl
  obtain ⟨a2, rfl, f2⟩ := IsPart.raw pu
  obtain ⟨a3, rfl, f3⟩ := IsPart.raw ps
  cases a1 with
  | some _ => cases f1
  | none =>
  cases a2 with
  | some _ => cases f2
  | none =>
  cases a3 with
  | none => cases f3
  | some c =>
  obtain ⟨ci, ct⟩ := c
  have hci : ci = -1 := Option.some.inj f3
  subst hci
  show wpAny (model X.prog X.w) X.A (subscriptTail e (.Slice none none (some (.UnaryOp .USub (.Constant (.int 1) k p1) p2)) p3) (.str (tx z) t) (.ref s4.heap.objs.size)) (EP X pins σ Q) X.xe _
  refine tail_any (ops := [.str (tx z) t, .ref s4.heap.objs.size]) (typeIs_str _ _ _) (PySem.F.slot_str_getitem.lookup) ?_ (by with_unfolding_all rfl)
  refine wpAny_getItem_str_slice (l := none) (u := none) (st := some (-1, ct)) ⟨_, Heap.get?_push_size _ rfl, rfl, rfl⟩ rfl ?_
  unfold sliceMade
  have hneg : ¬ (((Option.map (fun x : Int × Tok => x.1) (some ((-1 : Int), ct))).getD 1 == 1 && (slicePicked (tx z) none none (some (-1, ct))).length == (tx z).length) = true) := by
    show ¬ (((-1 : Int) == 1 && _) = true)
    simp
  rw [if_neg hneg, rev_picked]
  exact ⟨by show (tx z.reverse).length ≤ sizeLine; rw [tx_len, List.length_reverse]; exact hz, .str _, H4, I5.tok _, ⟨_, rfl⟩, q⟩
theorem cutL_len (l : List Nat) (lo hi : Option Int) : (cutL l lo hi).length ≤ l.length := by
  unfold cutL
  rw [List.length_take, List.length_drop]
  omega
theorem rd_revS {te : TE} {σ : L2.St} {H : Hp} {Q : VK} (h : te σ H fun x H1 => ∃ l, x = .str (tx l) ∧ l.length ≤ sizeLine ∧ Q (.str (tx l.reverse)) H1) : tRevS te σ H Q := h
def spSpoilt (K : PySem.W.Frag) : Sp := fun vs H Q _ => ∃ (D L : Addr) (ls : List Nat), vs = [.ref D, .str (tx ls)] ∧ Deal D L H ∧ 2 ≤ ls.length ∧ ls.length ≤ 5 ∧ ∀ (x : V) (H' : Hp), TxtOr K H' x → Keep D L H H' → Deal D L H' → Q x H'
theorem cl_spoilt (T : Txt K mg) : Cl P w K mg base "_law_spoilt" ["_law_deal_here", "_law_letters_here"] 3 (spSpoilt K) := cl_of T.a__law_spoilt fun f fd F => by
  have C__law_draw := cl_draw (P := P) (w := w) (base := base) T
  have C__law_pick := cl_pick (P := P) (w := w) (base := base) T
  refine F.ok sc__law_spoilt (fun vs H Q E h => ?_) (fun cdv A outer s H vs Q E hr h => ?_)
  · obtain ⟨D, L, ls, rfl, _⟩ := h
    rfl
  · obtain ⟨D, L, ls, rfl, hd, hlo, hhi, q⟩ := h
    refine ⟨_, (pss_cons (ps_set (i := 2) sc__law_spoilt.nd rfl (Or.inl rfl) (pe_cl C__law_draw (hr.mono (by decide)) (by rfl) (pa_cons (pv 0) (pa_cons (pe_callB call_lenX (by rfl) T.m_len (by decide +kernel) (pa_cons (pv 1) pa_nil)) pa_nil))))
      (pss_cons (ps_set (i := 3) sc__law_spoilt.nd rfl (Or.inl rfl) (pe_cl C__law_pick (hr.mono (by decide)) (by rfl) (pa_cons (pv 0) (pa_cons (pe_lst (pa_cons (pe_strX [65] (by decide +kernel)) (pa_cons (pe_strX [32] (by decide +kernel)) (pa_cons (pe_strX [64] (by decide +kernel)) (pa_cons (pe_strX [126] (by decide +kernel)) (pa_cons (pe_strX [44] (by decide +kernel)) (pa_cons (pe_strX [58] (by decide +kernel)) (pa_cons (pe_ix ix_strX (pv 1) (pv 2) (fun _ _ => rfl)) (pa_cons (pe_strX [10] (by decide +kernel)) (pa_cons (pe_strX [33] (by decide +kernel)) (pa_cons (pe_strX [122, 123] (by decide +kernel)) pa_nil))))))))))) pa_nil))))
      (pss_cons (ps_set (i := 4) sc__law_spoilt.nd rfl (Or.inl rfl) (pe_lst (pa_cons (pe_op op_addX (pe_op op_addX (pe_slice sl_strX (pv 1) po_none (po_some (pv 2))) (pv 3)) (pe_slice sl_strX (pv 1) (po_some (pv 2)) po_none)) (pa_cons (pe_revS (pv 1)) (pa_cons (pe_ix ix_strX (pv 1) pe_int (fun _ _ => rfl)) (pa_cons (pe_strX [] (by decide +kernel)) (pa_cons (pe_callTy (call_listX rfl) (by rfl) T.m_list (by decide +kernel) (pa_cons (pv 1) pa_nil)) (pa_cons (pe_op op_mulT (pv 1) pe_int) (pa_cons (pe_tup (pa_cons (pv 1) pa_nil)) pa_nil)))))))))
      (pss_cons (ps_set (i := 5) sc__law_spoilt.nd rfl (Or.inl rfl) (pe_op op_addX (pe_slice sl_strX (pv 1) (po_some (pe_op op_add (pv 2) pe_int)) (po_some (pe_op op_add (pv 2) pe_int))) (pe_slice sl_strX (pv 1) (po_some (pv 2)) (po_some (pe_op op_add (pv 2) pe_int)))))
      (pss_cons (ps_set (i := 6) sc__law_spoilt.nd rfl (Or.inl rfl) (pe_op op_addX (pe_op op_addX (pe_slice sl_strX (pv 1) po_none (po_some (pv 2))) (pv 5)) (pe_slice sl_strX (pv 1) (po_some (pe_op op_add (pv 2) pe_int)) po_none)))
      (pss_cons (ps_set (i := 4) sc__law_spoilt.nd rfl (Or.inl rfl) (pe_op op_cat (pv 4) (pe_lst (pa_cons pe_non (pa_cons pe_int (pa_cons (pe_strX [45, 46, 47, 48, 49, 50] (by decide +kernel)) (pa_cons (pe_op op_addX (pe_ix ix_strX (pv 1) (pv 2) (fun _ _ => rfl)) (pv 3)) pa_nil)))))))
      (pss_one (ps_ret (pe_cl C__law_pick (hr.mono (by decide)) (by rfl) (pa_cons (pv 0) (pa_cons (pe_op op_cat (pv 4) (pe_op op_rep (pe_lst (pa_cons (pv 6) pa_nil)) pe_int)) pa_nil))))))))))), ?_⟩
    walk_at "rds"
    refine rd_lenX (sz_of' (by omega)) ?_
    walk_at "rds"
    refine ⟨D, L, _, rfl, hd, by omega, by omega, fun k H1 k0 k1 kp1 hd1 => ?_⟩
    walk_at "rds"
    obtain ⟨j, rfl⟩ : ∃ j : Nat, k = (j : Int) := ⟨k.toNat, by omega⟩
    have hj : j < ls.length := by omega
    have hget : ls[j]? = some ls[j] := List.getElem?_eq_getElem hj
    refine rd_ixX (sz_of' (by omega)) (atI_nat hget) ?_
    walk_at "rds"
    refine ⟨(by show 10 ≤ sizeLine; decide), fun p np => ?_⟩
    walk_at "rds"
    obtain ⟨pD, pL⟩ := hd1.new np
    refine ⟨D, L, _, _, rfl, hd1.keep (same_upd np), .inl ⟨p, rfl, pD, pL, SqL.of upd_same⟩, (by show 0 < 10; decide), (by show 10 ≤ 1000; decide), fun x H2 hx kp2 hd2 => ?_⟩
    obtain ⟨od, rfl, hod⟩ : ∃ od : List Nat, x = .str (tx od) ∧ od.length ≤ 2 := by
      simp only [List.mem_cons, List.not_mem_nil, or_false] at hx
      rcases hx with rfl | rfl | rfl | rfl | rfl | rfl | rfl | rfl | rfl | rfl <;> exact ⟨_, rfl, by simp⟩
    have kp : Keep D L H H2 := kp1.trans ((Keep.of_same (same_upd np)).trans kp2)
    clear hx
    walk_at "rds"
    have h0 : ls[0]? = some (ls[0]'(by omega)) := List.getElem?_eq_getElem _
    have c1 := cutL_len ls none (some ((j : Nat) : Int))
    have c2 := cutL_len ls (some ((j : Nat) : Int)) none
    refine rd_slX (sz_of' (by omega)) ?_
    walk_at "rds"
    refine rd_addX (sz_of' (by omega)) ?_
    walk_at "rds"
    refine rd_slX (sz_of' (by omega)) ?_
    walk_at "rds"
    refine rd_addX (sz_of' (by rw [List.length_append]; omega)) ?_
    walk_at "rds"
    refine rd_revS ?_
    walk_at "rds"
    refine ⟨ls, rfl, sz_of' (by omega), ?_⟩
    walk_at "rds"
    refine rd_ixX (sz_of' (by omega)) (atI_nat (j := 0) h0) ?_
    walk_at "rds"
    have hdH2 := hd2
    refine rd_listX (sz_of' (by omega)) fun p1 n1 => ?_
    have g1 : Same H2 (upd H2 p1 (HO.lst (sgs ls))) ∧ (upd H2 p1 (HO.lst (sgs ls))) p1 = some (HO.lst (sgs ls)) := ⟨same_upd n1, upd_same⟩
    obtain ⟨p1D, p1L⟩ := (hdH2).new n1
    have hdG1 := hdH2.keep g1.1
    generalize upd H2 p1 (HO.lst (sgs ls)) = G1 at g1 hdG1 ⊢
    walk_at "rds"
    refine rd_mulX (by decide) (by decide) (by show ls.length * 2 ≤ 100000; omega) ?_
    walk_at "rds"
    refine ⟨(by show 1 ≤ sizeLine; decide), fun p2 n2 => ?_⟩
    have g2 : Same G1 (upd G1 p2 (HO.tup [V.str (tx ls)])) ∧ (upd G1 p2 (HO.tup [V.str (tx ls)])) p2 = some (HO.tup [V.str (tx ls)]) := ⟨same_upd n2, upd_same⟩
    obtain ⟨p2D, p2L⟩ := (hdG1).new n2
    have hdG2 := hdG1.keep g2.1
    generalize upd G1 p2 (HO.tup [V.str (tx ls)]) = G2 at g2 hdG2 ⊢
    walk_at "rds"
    refine ⟨(by show 7 ≤ sizeLine; decide), fun p3 n3 => ?_⟩
    have g3 : Same G2 (upd G2 p3 (HO.lst [V.str (tx (cutL ls none (some ((j : Nat) : Int)) ++ od ++ cutL ls (some ((j : Nat) : Int)) none)), V.str (tx ls.reverse), V.str (tx [ls[0]]), V.str (tx []), V.ref p1, V.str (tx (reps (Int.toNat 2) ls)), V.ref p2])) ∧ (upd G2 p3 (HO.lst [V.str (tx (cutL ls none (some ((j : Nat) : Int)) ++ od ++ cutL ls (some ((j : Nat) : Int)) none)), V.str (tx ls.reverse), V.str (tx [ls[0]]), V.str (tx []), V.ref p1, V.str (tx (reps (Int.toNat 2) ls)), V.ref p2])) p3 = some (HO.lst [V.str (tx (cutL ls none (some ((j : Nat) : Int)) ++ od ++ cutL ls (some ((j : Nat) : Int)) none)), V.str (tx ls.reverse), V.str (tx [ls[0]]), V.str (tx []), V.ref p1, V.str (tx (reps (Int.toNat 2) ls)), V.ref p2]) := ⟨same_upd n3, upd_same⟩
    obtain ⟨p3D, p3L⟩ := (hdG2).new n3
    have hdG3 := hdG2.keep g3.1
    generalize upd G2 p3 (HO.lst [V.str (tx (cutL ls none (some ((j : Nat) : Int)) ++ od ++ cutL ls (some ((j : Nat) : Int)) none)), V.str (tx ls.reverse), V.str (tx [ls[0]]), V.str (tx []), V.ref p1, V.str (tx (reps (Int.toNat 2) ls)), V.ref p2]) = G3 at g3 hdG3 ⊢
    walk_at "rds"
    have c3 := cutL_len ls (some (((j : Nat) : Int) + 1)) (some (((j : Nat) : Int) + 2))
    have c4 := cutL_len ls (some ((j : Nat) : Int)) (some (((j : Nat) : Int) + 1))
    have c5 := cutL_len ls (some (((j : Nat) : Int) + 2)) none
    refine rd_slX (sz_of' (by omega)) ?_
    walk_at "rds"
    refine rd_slX (sz_of' (by omega)) ?_
    walk_at "rds"
    refine rd_addX (sz_of' (by omega)) ?_
    walk_at "rds"
    refine rd_slX (sz_of' (by omega)) ?_
    walk_at "rds"
    refine rd_addX (sz_of' (by simp only [List.length_append]; omega)) ?_
    walk_at "rds"
    refine rd_slX (sz_of' (by omega)) ?_
    walk_at "rds"
    refine rd_addX (sz_of' (by simp only [List.length_append]; omega)) ?_
    walk_at "rds"
    refine rd_ixX (sz_of' (by omega)) (atI_nat hget) ?_
    walk_at "rds"
    refine rd_addX (sz_of' (by simp only [List.length_cons, List.length_nil]; omega)) ?_
    walk_at "rds"
    refine ⟨(by show 4 ≤ sizeLine; decide), fun p4 n4 => ?_⟩
    have g4 : Same G3 (upd G3 p4 (HO.lst [V.non, V.int 3, V.str (tx [45, 46, 47, 48, 49, 50]), V.str (tx ([ls[j]] ++ od))])) ∧ (upd G3 p4 (HO.lst [V.non, V.int 3, V.str (tx [45, 46, 47, 48, 49, 50]), V.str (tx ([ls[j]] ++ od))])) p4 = some (HO.lst [V.non, V.int 3, V.str (tx [45, 46, 47, 48, 49, 50]), V.str (tx ([ls[j]] ++ od))]) := ⟨same_upd n4, upd_same⟩
    obtain ⟨p4D, p4L⟩ := (hdG3).new n4
    have hdG4 := hdG3.keep g4.1
    generalize upd G3 p4 (HO.lst [V.non, V.int 3, V.str (tx [45, 46, 47, 48, 49, 50]), V.str (tx ([ls[j]] ++ od))]) = G4 at g4 hdG4 ⊢
    walk_at "rds"
    refine rd_cat (g4.1 _ _ g3.2) g4.2 (sz_of' (by simp only [List.length_cons, List.length_nil]; omega)) fun p5 n5 => ?_
    have g5 : Same G4 (upd G4 p5 (HO.lst ([V.str (tx (cutL ls none (some ((j : Nat) : Int)) ++ od ++ cutL ls (some ((j : Nat) : Int)) none)), V.str (tx ls.reverse), V.str (tx [ls[0]]), V.str (tx []), V.ref p1, V.str (tx (reps (Int.toNat 2) ls)), V.ref p2] ++ [V.non, V.int 3, V.str (tx [45, 46, 47, 48, 49, 50]), V.str (tx ([ls[j]] ++ od))]))) ∧ (upd G4 p5 (HO.lst ([V.str (tx (cutL ls none (some ((j : Nat) : Int)) ++ od ++ cutL ls (some ((j : Nat) : Int)) none)), V.str (tx ls.reverse), V.str (tx [ls[0]]), V.str (tx []), V.ref p1, V.str (tx (reps (Int.toNat 2) ls)), V.ref p2] ++ [V.non, V.int 3, V.str (tx [45, 46, 47, 48, 49, 50]), V.str (tx ([ls[j]] ++ od))]))) p5 = some (HO.lst ([V.str (tx (cutL ls none (some ((j : Nat) : Int)) ++ od ++ cutL ls (some ((j : Nat) : Int)) none)), V.str (tx ls.reverse), V.str (tx [ls[0]]), V.str (tx []), V.ref p1, V.str (tx (reps (Int.toNat 2) ls)), V.ref p2] ++ [V.non, V.int 3, V.str (tx [45, 46, 47, 48, 49, 50]), V.str (tx ([ls[j]] ++ od))])) := ⟨same_upd n5, upd_same⟩
    obtain ⟨p5D, p5L⟩ := (hdG4).new n5
    have hdG5 := hdG4.keep g5.1
    generalize upd G4 p5 (HO.lst ([V.str (tx (cutL ls none (some ((j : Nat) : Int)) ++ od ++ cutL ls (some ((j : Nat) : Int)) none)), V.str (tx ls.reverse), V.str (tx [ls[0]]), V.str (tx []), V.ref p1, V.str (tx (reps (Int.toNat 2) ls)), V.ref p2] ++ [V.non, V.int 3, V.str (tx [45, 46, 47, 48, 49, 50]), V.str (tx ([ls[j]] ++ od))])) = G5 at g5 hdG5 ⊢
    walk_at "rds"
    refine ⟨(by show 1 ≤ sizeLine; decide), fun p6 n6 => ?_⟩
    have g6 : Same G5 (upd G5 p6 (HO.lst [V.str (tx (cutL ls none (some ((j : Nat) : Int)) ++ (cutL ls (some (((j : Nat) : Int) + 1)) (some (((j : Nat) : Int) + 2)) ++ cutL ls (some ((j : Nat) : Int)) (some (((j : Nat) : Int) + 1))) ++ cutL ls (some (((j : Nat) : Int) + 2)) none))])) ∧ (upd G5 p6 (HO.lst [V.str (tx (cutL ls none (some ((j : Nat) : Int)) ++ (cutL ls (some (((j : Nat) : Int) + 1)) (some (((j : Nat) : Int) + 2)) ++ cutL ls (some ((j : Nat) : Int)) (some (((j : Nat) : Int) + 1))) ++ cutL ls (some (((j : Nat) : Int) + 2)) none))])) p6 = some (HO.lst [V.str (tx (cutL ls none (some ((j : Nat) : Int)) ++ (cutL ls (some (((j : Nat) : Int) + 1)) (some (((j : Nat) : Int) + 2)) ++ cutL ls (some ((j : Nat) : Int)) (some (((j : Nat) : Int) + 1))) ++ cutL ls (some (((j : Nat) : Int) + 2)) none))]) := ⟨same_upd n6, upd_same⟩
    obtain ⟨p6D, p6L⟩ := (hdG5).new n6
    have hdG6 := hdG5.keep g6.1
    generalize upd G5 p6 (HO.lst [V.str (tx (cutL ls none (some ((j : Nat) : Int)) ++ (cutL ls (some (((j : Nat) : Int) + 1)) (some (((j : Nat) : Int) + 2)) ++ cutL ls (some ((j : Nat) : Int)) (some (((j : Nat) : Int) + 1))) ++ cutL ls (some (((j : Nat) : Int) + 2)) none))]) = G6 at g6 hdG6 ⊢
    walk_at "rds"
    refine ⟨p6, 3, _, rfl, rfl, g6.2, by decide, by decide, by show 1 * 3 ≤ sizeLine; decide, fun p7 n7 => ?_⟩
    have g7 : Same G6 (upd G6 p7 (HO.lst (List.replicate (Int.toNat 3) [V.str (tx (cutL ls none (some ((j : Nat) : Int)) ++ (cutL ls (some (((j : Nat) : Int) + 1)) (some (((j : Nat) : Int) + 2)) ++ cutL ls (some ((j : Nat) : Int)) (some (((j : Nat) : Int) + 1))) ++ cutL ls (some (((j : Nat) : Int) + 2)) none))]).flatten)) ∧ (upd G6 p7 (HO.lst (List.replicate (Int.toNat 3) [V.str (tx (cutL ls none (some ((j : Nat) : Int)) ++ (cutL ls (some (((j : Nat) : Int) + 1)) (some (((j : Nat) : Int) + 2)) ++ cutL ls (some ((j : Nat) : Int)) (some (((j : Nat) : Int) + 1))) ++ cutL ls (some (((j : Nat) : Int) + 2)) none))]).flatten)) p7 = some (HO.lst (List.replicate (Int.toNat 3) [V.str (tx (cutL ls none (some ((j : Nat) : Int)) ++ (cutL ls (some (((j : Nat) : Int) + 1)) (some (((j : Nat) : Int) + 2)) ++ cutL ls (some ((j : Nat) : Int)) (some (((j : Nat) : Int) + 1))) ++ cutL ls (some (((j : Nat) : Int) + 2)) none))]).flatten) := ⟨same_upd n7, upd_same⟩
    obtain ⟨p7D, p7L⟩ := (hdG6).new n7
    have hdG7 := hdG6.keep g7.1
    generalize upd G6 p7 (HO.lst (List.replicate (Int.toNat 3) [V.str (tx (cutL ls none (some ((j : Nat) : Int)) ++ (cutL ls (some (((j : Nat) : Int) + 1)) (some (((j : Nat) : Int) + 2)) ++ cutL ls (some ((j : Nat) : Int)) (some (((j : Nat) : Int) + 1))) ++ cutL ls (some (((j : Nat) : Int) + 2)) none))]).flatten) = G7 at g7 hdG7 ⊢
    walk_at "rds"
    refine rd_cat (g7.1 _ _ (g6.1 _ _ g5.2)) g7.2 (by show 11 + 3 ≤ sizeLine; decide) fun p8 n8 => ?_
    have g8 : Same G7 (upd G7 p8 (HO.lst (([V.str (tx (cutL ls none (some ((j : Nat) : Int)) ++ od ++ cutL ls (some ((j : Nat) : Int)) none)), V.str (tx ls.reverse), V.str (tx [ls[0]]), V.str (tx []), V.ref p1, V.str (tx (reps (Int.toNat 2) ls)), V.ref p2] ++ [V.non, V.int 3, V.str (tx [45, 46, 47, 48, 49, 50]), V.str (tx ([ls[j]] ++ od))]) ++ (List.replicate (Int.toNat 3) [V.str (tx (cutL ls none (some ((j : Nat) : Int)) ++ (cutL ls (some (((j : Nat) : Int) + 1)) (some (((j : Nat) : Int) + 2)) ++ cutL ls (some ((j : Nat) : Int)) (some (((j : Nat) : Int) + 1))) ++ cutL ls (some (((j : Nat) : Int) + 2)) none))]).flatten))) ∧ (upd G7 p8 (HO.lst (([V.str (tx (cutL ls none (some ((j : Nat) : Int)) ++ od ++ cutL ls (some ((j : Nat) : Int)) none)), V.str (tx ls.reverse), V.str (tx [ls[0]]), V.str (tx []), V.ref p1, V.str (tx (reps (Int.toNat 2) ls)), V.ref p2] ++ [V.non, V.int 3, V.str (tx [45, 46, 47, 48, 49, 50]), V.str (tx ([ls[j]] ++ od))]) ++ (List.replicate (Int.toNat 3) [V.str (tx (cutL ls none (some ((j : Nat) : Int)) ++ (cutL ls (some (((j : Nat) : Int) + 1)) (some (((j : Nat) : Int) + 2)) ++ cutL ls (some ((j : Nat) : Int)) (some (((j : Nat) : Int) + 1))) ++ cutL ls (some (((j : Nat) : Int) + 2)) none))]).flatten))) p8 = some (HO.lst (([V.str (tx (cutL ls none (some ((j : Nat) : Int)) ++ od ++ cutL ls (some ((j : Nat) : Int)) none)), V.str (tx ls.reverse), V.str (tx [ls[0]]), V.str (tx []), V.ref p1, V.str (tx (reps (Int.toNat 2) ls)), V.ref p2] ++ [V.non, V.int 3, V.str (tx [45, 46, 47, 48, 49, 50]), V.str (tx ([ls[j]] ++ od))]) ++ (List.replicate (Int.toNat 3) [V.str (tx (cutL ls none (some ((j : Nat) : Int)) ++ (cutL ls (some (((j : Nat) : Int) + 1)) (some (((j : Nat) : Int) + 2)) ++ cutL ls (some ((j : Nat) : Int)) (some (((j : Nat) : Int) + 1))) ++ cutL ls (some (((j : Nat) : Int) + 2)) none))]).flatten)) := ⟨same_upd n8, upd_same⟩
    obtain ⟨p8D, p8L⟩ := (hdG7).new n8
    have hdG8 := hdG7.keep g8.1
    generalize upd G7 p8 (HO.lst (([V.str (tx (cutL ls none (some ((j : Nat) : Int)) ++ od ++ cutL ls (some ((j : Nat) : Int)) none)), V.str (tx ls.reverse), V.str (tx [ls[0]]), V.str (tx []), V.ref p1, V.str (tx (reps (Int.toNat 2) ls)), V.ref p2] ++ [V.non, V.int 3, V.str (tx [45, 46, 47, 48, 49, 50]), V.str (tx ([ls[j]] ++ od))]) ++ (List.replicate (Int.toNat 3) [V.str (tx (cutL ls none (some ((j : Nat) : Int)) ++ (cutL ls (some (((j : Nat) : Int) + 1)) (some (((j : Nat) : Int) + 2)) ++ cutL ls (some ((j : Nat) : Int)) (some (((j : Nat) : Int) + 1))) ++ cutL ls (some (((j : Nat) : Int) + 2)) none))]).flatten)) = G8 at g8 hdG8 ⊢
    walk_at "rds"
    refine ⟨D, L, _, _, rfl, hdG8, .inl ⟨p8, rfl, p8D, p8L, SqL.of g8.2⟩, (by show 0 < 14; decide), (by show 14 ≤ 1000; decide), fun x H' hx kp3 hd3 => ?_⟩
    have sAll : Same H2 G8 := same_trans g1.1 (same_trans g2.1 (same_trans g3.1 (same_trans g4.1 (same_trans g5.1 (same_trans g6.1 (same_trans g7.1 g8.1))))))
    have s18 : Same G1 G8 := same_trans g2.1 (same_trans g3.1 (same_trans g4.1 (same_trans g5.1 (same_trans g6.1 (same_trans g7.1 g8.1)))))
    have s28 : Same G2 G8 := same_trans g3.1 (same_trans g4.1 (same_trans g5.1 (same_trans g6.1 (same_trans g7.1 g8.1))))
    have e1 : H' p1 = some (HO.lst (sgs ls)) := kp3 _ _ (s18 _ _ g1.2) p1D p1L
    have e2 : H' p2 = some (HO.tup [V.str (tx ls)]) := kp3 _ _ (s28 _ _ g2.2) p2D p2L
    refine q x H' ?_ (kp.trans ((Keep.of_same sAll).trans kp3)) hd3
    have hx2 : x ∈ [V.str (tx (cutL ls none (some ((j : Nat) : Int)) ++ od ++ cutL ls (some ((j : Nat) : Int)) none)), V.str (tx ls.reverse), V.str (tx [ls[0]]), V.str (tx []), V.ref p1, V.str (tx (reps (Int.toNat 2) ls)), V.ref p2, V.non, V.int 3, V.str (tx [45, 46, 47, 48, 49, 50]), V.str (tx ([ls[j]] ++ od)), V.str (tx (cutL ls none (some ((j : Nat) : Int)) ++ (cutL ls (some (((j : Nat) : Int) + 1)) (some (((j : Nat) : Int) + 2)) ++ cutL ls (some ((j : Nat) : Int)) (some (((j : Nat) : Int) + 1))) ++ cutL ls (some (((j : Nat) : Int) + 2)) none)), V.str (tx (cutL ls none (some ((j : Nat) : Int)) ++ (cutL ls (some (((j : Nat) : Int) + 1)) (some (((j : Nat) : Int) + 2)) ++ cutL ls (some ((j : Nat) : Int)) (some (((j : Nat) : Int) + 1))) ++ cutL ls (some (((j : Nat) : Int) + 2)) none)), V.str (tx (cutL ls none (some ((j : Nat) : Int)) ++ (cutL ls (some (((j : Nat) : Int) + 1)) (some (((j : Nat) : Int) + 2)) ++ cutL ls (some ((j : Nat) : Int)) (some (((j : Nat) : Int) + 1))) ++ cutL ls (some (((j : Nat) : Int) + 2)) none))] := hx
    simp only [List.mem_cons, List.not_mem_nil, or_false, or_self] at hx2
    have T1 : ∀ u : List Nat, u.length ≤ 1000 → TxtOr K H' (.str (tx u)) := fun u hu => .inl ⟨u, rfl, hu⟩
    rcases hx2 with rfl | rfl | rfl | rfl | rfl | rfl | rfl | rfl | rfl | rfl | rfl | rfl
    · exact T1 _ (by simp only [List.length_append]; omega)
    · exact T1 _ (by rw [List.length_reverse]; omega)
    · exact T1 _ (by simp)
    · exact T1 _ (by simp)
    · exact .inr ⟨⟨_, .base (.lst e1), kit_ty (by decide +kernel)⟩, fun z e => by cases e⟩
    · exact T1 _ (by rw [reps_len]; show 2 * ls.length ≤ 1000; omega)
    · exact .inr ⟨⟨_, .base (.tup e2), kit_ty (by decide +kernel)⟩, fun z e => by cases e⟩
    · exact .inr ⟨⟨_, .base .non, kit_ty (by decide +kernel)⟩, fun z e => by cases e⟩
    · exact .inr ⟨⟨_, .base (.int 3), kit_ty (by decide +kernel)⟩, fun z e => by cases e⟩
    · exact T1 _ (by simp)
    · exact T1 _ (by simp only [List.length_append, List.length_cons, List.length_nil]; omega)
    · exact T1 _ (by simp only [List.length_append]; omega)
end
--C law._law_is_good
--C law._law_due
--C law.if3
section
variable {P : Program} {w : World} {K : PySem.W.Frag} {mg : Str → Option Value} {base : Heap}
set_option maxHeartbeats 8000000
def spLaw (K : PySem.W.Frag) : Sp := fun vs H Q _ => ∃ (a : Addr) (ns : List Int), vs = [.ref a] ∧ SqL K H a (ns.map V.int) ∧ ns.length ≤ 63 ∧ ∀ H', Q (.bl true) H'
theorem are_letters {ls : List Nat} (h2 : 2 ≤ ls.length) (h5 : ls.length ≤ 5) (hup : ls.Pairwise (· < ·)) (hm : ∀ c ∈ ls, c ∈ alphabet) : areB ls = true := by
  unfold areB consB ascB
  rw [decide_eq_true h2, decide_eq_true h5, Bool.true_and, Bool.true_and, Bool.and_eq_true]
  constructor
  · rw [List.all_eq_true]
    intro c hc
    exact decide_eq_true (hm c hc)
  · rw [List.all_eq_true]
    rintro ⟨c, d⟩ hcd
    apply decide_eq_true
    obtain ⟨i, hi, e⟩ := List.getElem_of_mem hcd
    rw [List.getElem_zip] at e
    have e1 : ls[i]'(by rw [List.length_zip] at hi; omega) = c := congrArg Prod.fst e
    have e2 : (ls.drop 1)[i]'(by rw [List.length_zip] at hi; omega) = d := congrArg Prod.snd e
    rw [List.getElem_drop] at e2
    have h := List.pairwise_iff_getElem.mp hup i (1 + i) (by rw [List.length_zip] at hi; omega) (by rw [List.length_zip, List.length_drop] at hi; omega) (by omega)
    rw [e1, e2] at h
    exact List.Lex.rel h
def g1B (u : List Nat) : Bool := decide (1 < u.length) && (decide (u.length < 6) && consB alphabet u)
def g1V : V → Bool
  | .str z => g1B z.cps.toList
  | _ => false
theorem g1V_not {x : V} (h : ∀ z, x ≠ .str z) : g1V x = false := by
  cases x with
  | str z => exact (h z rfl).elim
  | _ => rfl
theorem filt_nil (u : List Nat) : ((u.filter fun c => !decide (c ∈ alphabet)).isEmpty) = consB alphabet u := by
  unfold consB
  rw [Bool.eq_iff_iff, List.isEmpty_iff, List.filter_eq_nil_iff, List.all_eq_true]
  constructor
  · intro h c hc
    have := h c hc
    simpa using this
  · intro h c hc
    have := h c hc
    simpa using this
theorem filt_snoc {f : Nat → Bool} {u : List Nat} {i c : Nat} (h : u[i]? = some c) : (u.take (i + 1)).filter f = (u.take i).filter f ++ (if f c = true then [c] else []) := by
  rw [List.take_add_one, h, List.filter_append]
  congr 1
  show List.filter f [c] = _
  rw [List.filter_cons]
  cases f c <;> rfl
theorem sgs_isEmpty (l : List Nat) : (sgs l).isEmpty = l.isEmpty := by cases l <;> rfl
theorem sgs_app (a b : List Nat) : sgs (a ++ b) = sgs a ++ sgs b := by
  unfold sgs
  rw [List.map_append]
def badAt (u : List Nat) (n : Nat) : List Int := ((List.range n).filter fun j => !decide ([u.getD j 0] < [u.getD (j + 1) 0])).map fun j => ((j : Nat) : Int)
theorem badAt_nil (u : List Nat) : (badAt u (u.length - 1)).isEmpty = ascB u := by
  unfold badAt ascB
  rw [Bool.eq_iff_iff, List.isEmpty_iff, List.map_eq_nil_iff, List.filter_eq_nil_iff, List.all_eq_true]
  constructor
  · rintro h ⟨c, d⟩ hcd
    obtain ⟨i, hi, e⟩ := List.getElem_of_mem hcd
    rw [List.getElem_zip] at e
    rw [List.length_zip, List.length_drop] at hi
    have h1 := h i (List.mem_range.mpr (by omega))
    have e1 : u.getD i 0 = c := by
      rw [List.getD_eq_getElem?_getD, List.getElem?_eq_getElem (by omega)]
      exact congrArg Prod.fst e
    have e2 : u.getD (i + 1) 0 = d := by
      have := congrArg Prod.snd e
      simp only [List.getElem_drop] at this
      rw [List.getD_eq_getElem?_getD, List.getElem?_eq_getElem (by omega), ← this]
      simp [Nat.add_comm]
    rw [e1, e2] at h1
    simpa using h1
  · intro h j hj
    have hj := List.mem_range.mp hj
    have hz : (u[j]'(by omega), u[j + 1]'(by omega)) ∈ u.zip (u.drop 1) := by
      apply List.mem_of_getElem? (i := j)
      rw [List.getElem?_zip_eq_some]
      exact ⟨List.getElem?_eq_getElem _, by rw [List.getElem?_drop, Nat.add_comm]; exact List.getElem?_eq_getElem _⟩
    have h1 := h _ hz
    rw [List.getD_eq_getElem?_getD, List.getD_eq_getElem?_getD, List.getElem?_eq_getElem (by omega : j < u.length), List.getElem?_eq_getElem (by omega : j + 1 < u.length)]
    simpa using h1
theorem badAt_snoc (u : List Nat) (n : Nat) : badAt u (n + 1) = badAt u n ++ (if (!decide ([u.getD n 0] < [u.getD (n + 1) 0])) = true then [((n : Nat) : Int)] else []) := by
  unfold badAt
  rw [List.range_succ, List.filter_append, List.map_append]
  congr 1
  rw [List.filter_cons]
  by_cases h : (!decide ([u.getD n 0] < [u.getD (n + 1) 0])) = true
  · rw [if_pos h, if_pos h]
    rfl
  · rw [if_neg h, if_neg h]
    rfl
theorem areV_g1 (u : List Nat) : areV (.str (tx u)) = (g1V (.str (tx u)) && ascB u) := by
  show areB u = (g1B u && ascB u)
  unfold areB g1B
  have e1 : decide (2 ≤ u.length) = decide (1 < u.length) := rfl
  have e2 : decide (u.length ≤ 5) = decide (u.length < 6) := by
    rw [decide_eq_decide]
    omega
  rw [e1, e2, Bool.and_assoc, Bool.and_assoc]
/-- a value that a test may meet, and that stays while the deal changes -/
def Vk (K : PySem.W.Frag) (D L : Addr) (H : Hp) (x : V) : Prop := (∃ u, x = .str (tx u) ∧ u.length ≤ 1000) ∨ (x = .non ∨ (∃ b, x = .bl b) ∨ ∃ i, x = .int i) ∨ ∃ a ys, x = .ref a ∧ a ≠ D ∧ a ≠ L ∧ (SqL K H a ys ∨ SqT K H a ys)
theorem Vk.keep {D L : Addr} {H H' : Hp} {x : V} (h : Vk K D L H x) (k : Keep D L H H') : Vk K D L H' x := by
  rcases h with h | h | ⟨a, ys, e, h1, h2, h3⟩
  · exact .inl h
  · exact .inr (.inl h)
  · refine .inr (.inr ⟨a, ys, e, h1, h2, h3.imp (fun h => keep_seq k h1 h2 h) fun h => ?_⟩)
    rcases h with (h | ⟨o, h⟩) | h
    · exact .inl (.inl (k _ _ h h1 h2))
    · exact .inl (.inr ⟨o, k _ _ h h1 h2⟩)
    · exact .inr h
theorem Vk.or {D L : Addr} {H : Hp} {x : V} (h : Vk K D L H x) : TxtOr K H x := by
  rcases h with ⟨u, rfl, hu⟩ | (rfl | ⟨b, rfl⟩ | ⟨i, rfl⟩) | ⟨a, ys, rfl, _, _, h⟩
  · exact .inl ⟨u, rfl, hu⟩
  · exact .inr ⟨⟨_, .base .non, kit_ty (by decide +kernel)⟩, fun z e => by cases e⟩
  · exact .inr ⟨⟨_, .base (.bl b), kit_ty (by decide +kernel)⟩, fun z e => by cases e⟩
  · exact .inr ⟨⟨_, .base (.int i), kit_ty (by decide +kernel)⟩, fun z e => by cases e⟩
  · refine .inr ⟨?_, fun z e => by cases e⟩
    rcases h with ((h | ⟨o, h⟩) | ⟨o, _, _, h, c, _⟩) | ((h | ⟨o, h⟩) | ⟨o, _, _, h, c, _⟩)
    · exact ⟨_, .base (.lst h), kit_ty (by decide +kernel)⟩
    · exact ⟨_, .base (.frz h), kit_ty (by decide +kernel)⟩
    · exact ⟨_, .kList h c, kit_ty (by decide +kernel)⟩
    · exact ⟨_, .base (.tup h), kit_ty (by decide +kernel)⟩
    · exact ⟨_, .fTuple h, kit_ty (by decide +kernel)⟩
    · exact ⟨_, .kTuple h c, kit_ty (by decide +kernel)⟩
theorem Vk.of {D L : Addr} {H : Hp} {x : V} {d : PyData} (h : Dp K H x d) (hd : d ∈ valDs) (n : ∀ p, x = .ref p → p ≠ D ∧ p ≠ L) : Vk K D L H x := by
  have hz := val_len hd
  cases h with
  | non => exact .inr (.inl (.inl rfl))
  | bl b => exact .inr (.inl (.inr (.inl ⟨b, rfl⟩)))
  | int i => exact .inr (.inl (.inr (.inr ⟨i, rfl⟩)))
  | str z => exact .inl ⟨z.cps.toList, by rw [tx_of], hz z rfl⟩
  | lst h1 _ => exact .inr (.inr ⟨_, _, rfl, (n _ rfl).1, (n _ rfl).2, .inl h1⟩)
  | tup h1 _ => exact .inr (.inr ⟨_, _, rfl, (n _ rfl).1, (n _ rfl).2, .inr h1⟩)
/-- a pair of a value and what is due -/
def Itm (K : PySem.W.Frag) (D L : Addr) (ls : List Nat) (H : Hp) (y : V) : Prop := ∃ T v d, y = .ref T ∧ T ≠ D ∧ T ≠ L ∧ H T = some (.tup [v, d]) ∧ Vk K D L H v ∧ (d = .bl (isTxtB ls v) ∨ d = .non)
theorem Itm.keep {D L : Addr} {ls : List Nat} {H H' : Hp} {y : V} (h : Itm K D L ls H y) (k : Keep D L H H') : Itm K D L ls H' y := by
  obtain ⟨T, v, d, e, h1, h2, h3, h4, h5⟩ := h
  exact ⟨T, v, d, e, h1, h2, k _ _ h3 h1 h2, h4.keep k, h5⟩
theorem filt2_nil (ls u : List Nat) : ((u.filter fun c => !decide (c ∈ ls)).isEmpty) = consB ls u := by
  unfold consB
  rw [Bool.eq_iff_iff, List.isEmpty_iff, List.filter_eq_nil_iff, List.all_eq_true]
  constructor
  · intro h c hc
    have := h c hc
    simpa using this
  · intro h c hc
    have := h c hc
    simpa using this
theorem tyX_same {H H' : Hp} {x : V} {t : Value} (s : Same H H') (h : TyX K H x t) : TyX K H' x t := by
  cases h with
  | base h =>
    cases h with
    | non => exact .base .non
    | bl x => exact .base (.bl x)
    | int i => exact .base (.int i)
    | str x => exact .base (.str x)
    | flt x => exact .base (.flt x)
    | lst e => exact .base (.lst (s _ _ e))
    | frz e => exact .base (.frz (s _ _ e))
    | tup e => exact .base (.tup (s _ _ e))
    | dK e => exact .base (.dK (s _ _ e))
    | dT e => exact .base (.dT (s _ _ e))
    | ins e cl ha hn htk hm => exact .base (.ins (s _ _ e) cl ha hn htk hm)
  | byt b => exact .byt b
  | set e => exact .set (s _ _ e)
  | kList e c => exact .kList e c
  | kTuple e c => exact .kTuple e c
  | kDict e c => exact .kDict e c
  | fTuple e => exact .fTuple (s _ _ e)
  | fDict e => exact .fDict (s _ _ e)
theorem TxtOr.same {H H' : Hp} {x : V} (h : TxtOr K H x) (s : Same H H') : TxtOr K H' x := by
  rcases h with h | ⟨⟨t, ty, kt⟩, hn⟩
  · exact .inl h
  · exact .inr ⟨⟨t, tyX_same s ty, kt⟩, hn⟩
theorem new_facts {D L p : Addr} {H : Hp} {o : HO} (hd : Deal D L H) (n : H p = none) : Same H (upd H p o) ∧ (upd H p o) p = some o ∧ Deal D L (upd H p o) ∧ p ≠ D ∧ p ≠ L :=
  ⟨same_upd n, upd_same, hd.keep (same_upd n), (hd.new n).1, (hd.new n).2⟩
theorem Deal.other {D L p : Addr} {H : Hp} {o : HO} (d : Deal D L H) (h1 : p ≠ D) (h2 : p ≠ L) : Deal D L (upd H p o) := by
  obtain ⟨cs, m, a, b, c⟩ := d
  exact ⟨cs, m, by rw [upd_ne h1.symm]; exact a, by rw [upd_ne h2.symm]; exact b, c⟩
theorem ok_law (T : Txt K mg) (Z : Kits K mg) {f : Addr} {fd : FuncData} (F : Fun K "law" "law" s_law f fd) : FnG P w K mg base 6 f fd ["_law_script"] (spLaw K) := by
  have C__law_deal := cl_deal (P := P) (w := w) (base := base) T
  have C__law_draw := cl_draw (P := P) (w := w) (base := base) T
  have C__law_pick := cl_pick (P := P) (w := w) (base := base) T
  have C__law_letters := cl_letters (P := P) (w := w) (base := base) T
  have C__law_word := cl_word (P := P) (w := w) (base := base) T
  have C__law_value := cl_value (P := P) (w := w) (base := base) T
  have C__law_errors_right := cl_errs (P := P) (w := w) (base := base) T Z
  have C__law_keeps_itself := cl_keeps (P := P) (w := w) (base := base) T
  have C__law_told := cl_told (P := P) (w := w) (base := base) T
  have C__law_spoilt := cl_spoilt (P := P) (w := w) (base := base) T
  have C_is_text := cl_is_text (P := P) (w := w) (base := base) T
  refine okG F sc_law (fun vs H Q E h => ?_) (fun cdv A outer s H vs Q E hgd hr h => ?_)
  · obtain ⟨a, ns, rfl, _⟩ := h
    rfl
  · obtain ⟨a, ns, rfl, hS, hlen, q⟩ := h
    refine ⟨_, (pss_cons (ps_set (i := 1) sc_law.nd rfl (Or.inl rfl) (pe_cl C__law_deal (hr.mono (by decide)) (by rfl) (pa_cons (pv 0) (pa_cons pe_int pa_nil))))
      (Evl.pss_cut (ps_for PassesOwn.never rfl (pi_range1 (by rfl) T.m_range (pa_cons pe_int pa_nil)) (pg_name (i := 2) sc_law.nd rfl (Or.inl rfl))
      (pss_cons (ps_set (i := 3) sc_law.nd rfl (Or.inr rfl) (pe_cl C__law_letters (hr.mono (by decide)) (by rfl) (pa_cons (pv 1) (pa_cons (pe_op op_add pe_int (pe_cl C__law_draw (hr.mono (by decide)) (by rfl) (pa_cons (pv 1) (pa_cons pe_int pa_nil)))) pa_nil))))
      (pss_cons (ps_if (PW.pt (pw_or (pt_not (pt_val (pe_clG C__law_errors_right hgd (hr.mono (by decide)) (by rfl) (pa_cons (pe_cl C__law_value (hr.mono (by decide)) (by rfl) (pa_cons (pv 1) pa_nil)) pa_nil)))) (pw_or1 (pt_cmpR op_notBl (pe_cl C__law_told (hr.mono (by decide)) (by rfl) (pa_cons (pv 3) pa_nil)) pe_bl (nomark _)))))
      (pss_one (ps_ret pe_bl))
      pss_nil)
      (pss_cons (ps_if (pt_not (pt_val (pe_clG C__law_keeps_itself hgd (hr.mono (by decide)) (by rfl) (pa_cons (pe_cl C__law_value (hr.mono (by decide)) (by rfl) (pa_cons (pv 1) pa_nil)) pa_nil))))
      (pss_one (ps_ret pe_bl))
      pss_nil)
      (pss_cons (ps_set (i := 4) sc_law.nd rfl (Or.inr rfl) (pe_cl C__law_spoilt (hr.mono (by decide)) (by rfl) (pa_cons (pv 1) (pa_cons (pv 3) pa_nil))))
      (pss_cons (ps_set (i := 5) sc_law.nd rfl (Or.inr rfl) (pe_strX [45, 46, 47, 48, 49, 50, 51, 52, 53, 54, 55, 56, 57, 95, 97, 98, 99, 100, 101, 102, 103, 104, 105, 106, 107, 108, 109, 110, 111, 112, 113, 114, 115, 116, 117, 118, 119, 120, 121, 122] (by decide +kernel)))
      (Evl.pss_cut (ps_set (i := 6) sc_law.nd rfl (Or.inl rfl) (pe_and (pe_callB call_isi (by rfl) T.m_isinstance (by decide +kernel) (pa_cons (pv 4) (pa_cons (pe_bltn (v := .ty "str") (by rfl) T.m_str (by decide +kernel) rfl) pa_nil))) (pe_and (pe_chain op_lt op_lt pe_int (pe_callB call_lenX (by rfl) T.m_len (by decide +kernel) (pa_cons (pv 4) pa_nil)) pe_int) (pe_one (pe_cmpR (op_eqE hr.units) (pe_lc (own := [("_law_sign", 14)]) (g := gName 14) (by rfl) sc_law.nd (pi_str (pv 4)) (blkOk_by (own := [("_law_sign", 14)]) (N := n_law) (sc := defScope s_law) (by decide +kernel)) (fun _ _ _ _ _ => (pg_name (i := 14) sc_law.nd rfl (Or.inl rfl))) (fun _ _ _ _ _ => (pts_one (pt_cmpR op_notInX (pv 14) (pv 5) (by rfl)))) (fun _ _ _ _ _ => (pv 14))) (pe_lst pa_nil) (nomark _))))))
      (Evl.pss_cut (ps_if (pt_val (pv 6))
      (pss_one (ps_set (i := 6) sc_law.nd rfl (Or.inl rfl) (pe_cmpR (op_eqE hr.units) (pe_lc (own := [("_law_at", 15)]) (g := gName 15) (by rfl) sc_law.nd (pi_range1 (by rfl) T.m_range (pa_cons (pe_op op_sub (pe_callB call_lenX (by rfl) T.m_len (by decide +kernel) (pa_cons (pv 4) pa_nil)) pe_int) pa_nil)) (blkOk_by (own := [("_law_at", 15)]) (N := n_law) (sc := defScope s_law) (by decide +kernel)) (fun _ _ _ _ _ => (pg_name (i := 15) sc_law.nd rfl (Or.inl rfl))) (fun _ _ _ _ _ => (pts_one (pt_not (pt_cmpR op_ltX (pe_ix ix_strX (pv 4) (pv 15) (fun _ _ => rfl)) (pe_ix ix_strX (pv 4) (pe_op op_add (pv 15) pe_int) (fun _ _ => rfl)) (nomark _))))) (fun _ _ _ _ _ => (pv 15))) (pe_lst pa_nil) (nomark _))))
      pss_nil)
      (Evl.pss_cut (ps_if (pt_cmpR (op_neD hr.units) (pe_cl C__law_told (hr.mono (by decide)) (by rfl) (pa_cons (pv 4) pa_nil)) (pe_ifExp (pt_val (pv 6)) pe_bl (pe_strX [114, 101, 102, 117, 115, 101, 100] (by decide +kernel))) (nomark _))
      (pss_one (ps_ret pe_bl))
      pss_nil)
      (pss_cons (ps_set (i := 7) sc_law.nd rfl (Or.inl rfl) (pe_cl C__law_word (hr.mono (by decide)) (by rfl) (pa_cons (pv 1) (pa_cons (pv 3) (pa_cons pe_int pa_nil)))))
      (pss_cons (ps_set (i := 8) sc_law.nd rfl (Or.inl rfl) (pe_lst (pa_cons (pe_tup (pa_cons (pv 7) (pa_cons pe_bl pa_nil))) (pa_cons (pe_tup (pa_cons (pe_strX [] (by decide +kernel)) (pa_cons pe_bl pa_nil))) (pa_cons (pe_tup (pa_cons (pe_op op_addX (pv 7) (pe_strX [64] (by decide +kernel))) (pa_cons pe_bl pa_nil))) (pa_cons (pe_tup (pa_cons (pe_callTy (call_listX rfl) (by rfl) T.m_list (by decide +kernel) (pa_cons (pv 7) pa_nil)) (pa_cons pe_bl pa_nil))) (pa_cons (pe_tup (pa_cons (pe_cl C__law_value (hr.mono (by decide)) (by rfl) (pa_cons (pv 1) pa_nil)) (pa_cons pe_non pa_nil))) pa_nil)))))))
      (pss_cons (ps_expr (pe_bm PySem.F.plainAttrs_list PySem.F.slot_list_append PySem.F.type_list_append mt_append (pv 8) (pa_cons (pe_tup (pa_cons (pe_op op_addX (pv 7) (pe_cl C__law_pick (hr.mono (by decide)) (by rfl) (pa_cons (pv 1) (pa_cons (pe_strX [45, 48, 97, 122, 126, 65] (by decide +kernel)) pa_nil)))) (pa_cons pe_non pa_nil))) pa_nil)))
      (pss_cons (ps_par (i := 9) (j := 10) (by rfl) sc_law.nd rfl rfl (by decide) rfl rfl (pa_cons (pe_slice sl_strX (pe_op op_mulT (pv 3) pe_int) po_none (po_some pe_int)) (pa_cons (pv 7) pa_nil)) (by rfl))
      (Evl.pss_cut (ps_for PassesOwn.never rfl (pi_range1 (by rfl) T.m_range (pa_cons pe_int pa_nil)) (pg_name (i := 11) sc_law.nd rfl (Or.inl rfl))
      (pss_one (ps_set (i := 10) sc_law.nd rfl (Or.inl rfl) (pe_ifExp (pt_cmpR op_gt (pv 11) pe_int (nomark _)) (pe_lst (pa_cons (pv 10) pa_nil)) (pe_tup (pa_cons (pv 10) pa_nil))))))
      (pss_cons (ps_set (i := 8) sc_law.nd rfl (Or.inl rfl) (pe_op op_cat (pv 8) (pe_lst (pa_cons (pe_tup (pa_cons (pv 9) (pa_cons pe_bl pa_nil))) (pa_cons (pe_tup (pa_cons (pe_op op_addX (pe_slice sl_strX (pv 9) po_none (po_some pe_int)) (pe_strX [126] (by decide +kernel))) (pa_cons pe_bl pa_nil))) (pa_cons (pe_tup (pa_cons (pe_op op_addX (pe_strX [64] (by decide +kernel)) (pe_slice sl_strX (pv 9) po_none (po_some pe_int))) (pa_cons pe_bl pa_nil))) (pa_cons (pe_tup (pa_cons (pv 10) (pa_cons pe_bl pa_nil))) pa_nil)))))))
      (pss_one (ps_for PassesOwn.never rfl (pi_list (pv 8)) (pg_tup rfl (pgs_cons (pg_name (i := 12) sc_law.nd rfl (Or.inl rfl)) (pgs_cons (pg_name (i := 13) sc_law.nd rfl (Or.inl rfl)) pgs_nil)))
      (Evl.pss_cut (ps_if (pt_cmpR op_isN' (pv 13) pe_non (nomark _))
      (pss_one (ps_set (i := 13) sc_law.nd rfl (Or.inl rfl) (pe_and (pe_callB call_isi (by rfl) T.m_isinstance (by decide +kernel) (pa_cons (pv 12) (pa_cons (pe_bltn (v := .ty "str") (by rfl) T.m_str (by decide +kernel) rfl) pa_nil))) (pe_one (pe_cmpR (op_eqE hr.units) (pe_lc (own := [("_law_sign", 14)]) (g := gName 14) (by rfl) sc_law.nd (pi_str (pv 12)) (blkOk_by (own := [("_law_sign", 14)]) (N := n_law) (sc := defScope s_law) (by decide +kernel)) (fun _ _ _ _ _ => (pg_name (i := 14) sc_law.nd rfl (Or.inl rfl))) (fun _ _ _ _ _ => (pts_one (pt_cmpR op_notInX (pv 14) (pv 3) (by rfl)))) (fun _ _ _ _ _ => (pv 14))) (pe_lst pa_nil) (nomark _))))))
      pss_nil)
      (pss_one (ps_if (pt_cmpR op_ne (pe_callB (r := rReprA K) (call_reprA hgd hr) (by rfl) T.m_repr (by decide +kernel) (pa_cons (pe_cl C_is_text (hr.mono (by decide)) (by rfl) (pa_cons (pv 3) (pa_cons (pv 12) pa_nil))) pa_nil)) (pe_callB (r := rReprA K) (call_reprA hgd hr) (by rfl) T.m_repr (by decide +kernel) (pa_cons (pv 13) pa_nil)) (nomark _))
      (pss_one (ps_ret pe_bl))
      pss_nil))))))))))))))))))))
      (pss_one (ps_ret pe_bl)))), ?_⟩
    walk_at "rds"
    refine ⟨a, ns, 0, rfl, hS, hlen, by decide, by decide, fun D L H1 nD nL s1 hd => ?_⟩
    walk_at "rds"
    refine rd_cut (fun σ' H' => True) ?_ (fun σ' H' _ => ?_)
    rotate_left
    · walk_at "rds"
      exact q _
    walk_at "rds"
    refine ⟨4, rfl, by decide, by decide, for_range (lo := 0) (n := (4 : Int).toNat) (fun i σ' H' => Deal D L H' ∧ ∃ y2 y3 y4 y5 y6 y7 y8 y9 y10 y11 y12 y13 y14 y15, σ' = [some (.ref a), some (.ref D), y2, y3, y4, y5, y6, y7, y8, y9, y10, y11, y12, y13, y14, y15]) ⟨hd, none, none, none, none, none, none, none, none, none, none, none, none, none, none, rfl⟩ ?_ (fun _ _ _ => trivial)⟩
    rintro i σ' H2 hi ⟨hd2, y2, y3, y4, y5, y6, y7, y8, y9, y10, y11, y12, y13, y14, y15, rfl⟩
    walk_at "rds"
    refine ⟨D, L, _, rfl, hd2, by decide, by decide, fun k H3 hk1 hk2 kp3 hd3 => ?_⟩
    walk_at "rds"
    refine ⟨D, L, _, rfl, hd3, by omega, by omega, fun ls H4 hl1 hup hmem kp4 hd4 => ?_⟩
    have hlo : 2 ≤ ls.length := by omega
    have hhi : ls.length ≤ 5 := by omega
    walk_at "rds"
    refine ⟨D, L, rfl, hd4, fun x1 v1 H5 m1 d1 nr1 kp5 hd5 => ?_⟩
    walk_at "rds"
    refine ⟨x1, v1, rfl, d1, val_good m1, fun H6 s6 => ?_⟩
    walk_at "rds"
    refine rd_ite (fun h => by cases h) (fun _ => ?_)
    walk_at "rds"
    refine ⟨.str (tx ls), rfl, .inl ⟨ls, rfl, by omega⟩, fun H7 s7 => ?_⟩
    have e7 : toldV (.str (tx ls)) = .bl true := if_pos (by rw [areV_tx]; exact are_letters hlo hhi hup hmem)
    rw [e7]
    walk_at "rds"
    refine rd_notB ?_
    walk_at "rds"
    refine rd_ite (fun h => by cases h) (fun _ => ?_)
    walk_at "rds"
    have hd7 : Deal D L H7 := (hd5.keep s6).keep s7
    refine ⟨D, L, rfl, hd7, fun x2 v2 H8 m2 d2 nr2 kp8 hd8 => ?_⟩
    walk_at "rds"
    refine ⟨x2, v2, rfl, d2, m2, fun H9 s9 => ?_⟩
    walk_at "rds"
    refine rd_ite (fun h => by cases h) (fun _ => ?_)
    walk_at "rds"
    refine ⟨D, L, ls, rfl, hd8.keep s9, hlo, hhi, fun od H10 hod kp10 hd10 => ?_⟩
    walk_at "rds"
    refine rd_cut (fun σ' H' => Same H10 H' ∧ σ' = [some (.ref a), some (.ref D), some (.int (0 + (i : Nat))), some (.str (tx ls)), some od, some (.str (tx alphabet)), some (.bl (g1V od)), y7, y8, y9, y10, y11, y12, y13, y14, y15]) ?_ ?_
    · walk_at "rds"
      rcases hod with ⟨u, rfl, hu⟩ | ⟨⟨t, ty, kt⟩, hn⟩
      · refine rd_isi (b := true) (.base (.str _)) (kit_ty (by decide +kernel)) ?_
        walk_at "rds"
        refine rd_ite (fun _ => ?_) (fun h => by cases h)
        walk_at "rds"
        refine rd_lenX (sz_of' hu) ?_
        walk_at "rds"
        have q1 : decide (1 < (u.length : Int)) = decide (1 < u.length) := by
          rw [decide_eq_decide]
          omega
        have q2 : decide ((u.length : Int) < 6) = decide (u.length < 6) := by
          rw [decide_eq_decide]
          omega
        rw [q1]
        have eg : g1V (.str (tx u)) = (decide (1 < u.length) && (decide (u.length < 6) && consB alphabet u)) := rfl
        refine rd_ite (fun h1 => ?_) (fun h1 => ?_)
        · walk_at "rds"
          rw [q2]
          refine rd_ite (fun h2 => ?_) (fun h2 => ?_)
          · rw [h1, h2, Bool.true_and, Bool.true_and] at eg
            rw [eg]
            walk_at "rds"
            refine fun e ne => lc_text (l := u) (fun j H' => Same H10 H' ∧ H' e = some (.lst (sgs ((u.take j).filter fun c => !decide (c ∈ alphabet))))) ⟨same_upd ne, upd_same⟩ ?_ ?_
            · rintro j c H' hc ⟨sH, he⟩
              walk_at "rds"
              refine ⟨rfl, ?_⟩
              walk_at "rds"
              refine rd_ite (fun h => ?_) (fun h => ?_)
              · walk_at "rds"
                refine ⟨_, he, ?_, same_mut sH ne, ?_⟩
                · rw [sgs_len]
                  have := List.length_filter_le (fun c => !decide (c ∈ alphabet)) (u.take j)
                  rw [List.length_take] at this
                  exact small1000 (by omega)
                · rw [upd_same, filt_snoc hc]
                  have h' : (!decide (c ∈ alphabet)) = true := h
                  rw [if_pos h', sgs_app]
                  rfl
              · refine ⟨sH, ?_⟩
                have h' : ¬ (!decide (c ∈ alphabet)) = true := by
                  have h2 : (!decide (c ∈ alphabet)) = false := h
                  rw [h2]
                  decide
                rw [filt_snoc hc, if_neg h', List.append_nil]
                exact he
            · rintro H' ⟨sH, he⟩
              rw [List.take_length] at he
              walk_at "rds"
              refine ⟨(by show 0 ≤ sizeLine; decide), fun p4 np4 => ?_⟩
              have hne : p4 ≠ e := fun z => by rw [z, he] at np4; cases np4
              refine rd_eqE (SqL.of (by rw [upd_ne hne.symm]; exact he)) (SqL.of upd_same) ?_
              rw [sgs_isEmpty, filt_nil]
              walk_at "rds"
              exact ⟨same_trans sH (same_upd np4), rfl⟩
          · rw [h1, h2, Bool.true_and, Bool.false_and] at eg
            rw [eg]
            walk_at "rds"
            exact ⟨same_refl _, rfl⟩
        · rw [h1, Bool.false_and] at eg
          rw [eg]
          walk_at "rds"
          refine rd_ite (fun h => by cases h) (fun _ => ?_)
          walk_at "rds"
          exact ⟨same_refl _, rfl⟩
      · refine rd_isi ty kt ?_
        walk_at "rds"
        refine rd_ite (fun h => by cases h) (fun _ => ?_)
        walk_at "rds"
        rw [g1V_not hn]
        exact ⟨same_refl _, rfl⟩
    · rintro σ5 H11 ⟨s11, rfl⟩
      walk_at "rds"
      have hod11 := hod.same s11
      refine rd_cut (fun σ' H' => Same H11 H' ∧ σ' = [some (.ref a), some (.ref D), some (.int (0 + (i : Nat))), some (.str (tx ls)), some od, some (.str (tx alphabet)), some (.bl (areV od)), y7, y8, y9, y10, y11, y12, y13, y14, y15]) ?_ ?_
      · walk_at "rds"
        refine rd_ite (fun hg => ?_) (fun hg => ?_)
        · rcases hod with ⟨u, rfl, hu⟩ | ⟨_, hn⟩
          · have ea := areV_g1 u
            rw [hg, Bool.true_and] at ea
            rw [ea]
            have hg' : (decide (1 < u.length) && (decide (u.length < 6) && consB alphabet u)) = true := hg
            rw [Bool.and_eq_true, Bool.and_eq_true, decide_eq_true_eq, decide_eq_true_eq] at hg'
            have g1 := hg'.1
            have g2 := hg'.2.1
            walk_at "rds"
            refine rd_lenX (sz_of' hu) ?_
            walk_at "rds"
            refine ⟨_, rfl, by omega, by omega, fun e ne => lc_range (lo := 0) (n := ((u.length : Int) - 1).toNat) (fun j H' => Same H11 H' ∧ H' e = some (.lst ((badAt u j).map V.int))) ⟨same_upd ne, upd_same⟩ ?_ ?_⟩
            · rintro j H' hj ⟨sH, he⟩
              have j1 : j < u.length := by omega
              have j2 : j + 1 < u.length := by omega
              walk_at "rds"
              refine ⟨rfl, ?_⟩
              walk_at "rds"
              refine rd_ixX (sz_of' hu) (n := u.getD j 0) (by rw [Int.zero_add]; exact atI_nat (by rw [List.getD_eq_getElem?_getD, List.getElem?_eq_getElem j1]; rfl)) ?_
              walk_at "rds"
              refine rd_ixX (sz_of' hu) (n := u.getD (j + 1) 0) (by rw [Int.zero_add]; exact atI_nat (j := j + 1) (by rw [List.getD_eq_getElem?_getD, List.getElem?_eq_getElem j2]; rfl)) ?_
              walk_at "rds"
              refine rd_ite (fun h => ?_) (fun h => ?_)
              · walk_at "rds"
                refine ⟨_, he, ?_, same_mut sH ne, ?_⟩
                · unfold badAt
                  rw [List.length_map, List.length_map]
                  have := List.length_filter_le (fun j => !decide ([u.getD j 0] < [u.getD (j + 1) 0])) (List.range j)
                  rw [List.length_range] at this
                  exact small1000 (by omega)
                · rw [upd_same, badAt_snoc, if_pos h, List.map_append, Int.zero_add]
                  rfl
              · refine ⟨sH, ?_⟩
                rw [badAt_snoc, if_neg (by rw [h]; decide), List.append_nil]
                exact he
            · rintro H' ⟨sH, he⟩
              have en : ((u.length : Int) - 1).toNat = u.length - 1 := by omega
              rw [en] at he
              walk_at "rds"
              refine ⟨(by show 0 ≤ sizeLine; decide), fun p4 np4 => ?_⟩
              have hne : p4 ≠ e := fun z => by rw [z, he] at np4; cases np4
              refine rd_eqE (SqL.of (by rw [upd_ne hne.symm]; exact he)) (SqL.of upd_same) ?_
              have eb : ((badAt u (u.length - 1)).map V.int).isEmpty = (badAt u (u.length - 1)).isEmpty := by
                cases badAt u (u.length - 1) <;> rfl
              rw [eb, badAt_nil]
              walk_at "rds"
              exact ⟨same_trans sH (same_upd np4), rfl⟩
          · rw [g1V_not hn] at hg
            cases hg
        · walk_at "rds"
          have ea : areV od = false := by
            rcases hod with ⟨u, rfl, hu⟩ | ⟨_, hn⟩
            · rw [areV_g1, hg]
              rfl
            · exact areV_not hn
          rw [ea]
          rw [hg]
          exact ⟨same_refl _, rfl⟩
      · rintro σ6 H12 ⟨s12, rfl⟩
        walk_at "rds"
        have hne0 : ls ≠ [] := by
          rintro rfl
          simp at hlo
        have hd12 : Deal D L H12 := (hd10.keep s11).keep s12
        refine rd_cut (fun σ' H' => Deal D L H' ∧ σ' = [some (.ref a), some (.ref D), some (.int (0 + (i : Nat))), some (.str (tx ls)), some od, some (.str (tx alphabet)), some (.bl (areV od)), y7, y8, y9, y10, y11, y12, y13, y14, y15]) ?_ ?_
        · walk_at "rds"
          refine ⟨od, rfl, hod11.same s12, fun H13 s13 => ?_⟩
          have hd13 := hd12.keep s13
          walk_at "rds"
          refine rd_ite (fun hg => ?_) (fun hg => ?_)
          · walk_at "rds"
            have e : toldV od = .bl true := if_pos hg
            rw [e]
            refine ⟨.bool true, .bool true, .bl _, .bl _, by decide +kernel, by decide +kernel, ?_⟩
            walk_at "rds"
            refine rd_ite (fun h => by cases h) (fun _ => ⟨hd13, rfl⟩)
          · walk_at "rds"
            have e : toldV od = .str (tx [114, 101, 102, 117, 115, 101, 100]) := if_neg (by rw [hg]; decide)
            rw [e]
            refine ⟨.str (tx [114, 101, 102, 117, 115, 101, 100]), .str (tx [114, 101, 102, 117, 115, 101, 100]), .str _, .str _, by decide +kernel, by decide +kernel, ?_⟩
            have ee : PyData.eqv (.str (tx [114, 101, 102, 117, 115, 101, 100])) (.str (tx [114, 101, 102, 117, 115, 101, 100])) = true := by decide +kernel
            rw [ee]
            walk_at "rds"
            refine rd_ite (fun h => by cases h) (fun _ => ⟨hd13, rfl⟩)
        · rintro σ7 H13 ⟨hd13, rfl⟩
          walk_at "rds"
          refine ⟨D, L, ls, _, rfl, hd13, hne0, by omega, by decide, by decide, fun wd H14 hwm hwl kp14 hd14 => ?_⟩
          have hwl' : wd.length ≤ 6 := by omega
          have tW : isTxtB ls (.str (tx wd)) = true := by
            show consB ls wd = true
            unfold consB
            rw [List.all_eq_true]
            exact fun c hc => decide_eq_true (hwm c hc)
          have tA : ∀ u c, c ∉ alphabet → c ∈ u → isTxtB ls (.str (tx u)) = false := by
            intro u c hc hu
            show consB ls u = false
            unfold consB
            rw [List.all_eq_false]
            exact ⟨c, hu, by simpa using fun h => hc (hmem c h)⟩
          walk_at "rds"
          refine ⟨(by show 2 ≤ sizeLine; decide), fun T1 nT1 => ?_⟩
          obtain ⟨r1, e1, hda, T1D, T1L⟩ := new_facts (o := HO.tup [V.str (tx wd), V.bl true]) hd14 nT1
          generalize upd H14 T1 (HO.tup [V.str (tx wd), V.bl true]) = G1 at r1 e1 hda ⊢
          have I1 : Itm K D L ls G1 (.ref T1) := ⟨T1, _, _, rfl, T1D, T1L, e1, .inl ⟨wd, rfl, by omega⟩, .inl (by rw [tW])⟩
          walk_at "rds"
          refine ⟨(by show 2 ≤ sizeLine; decide), fun T2 nT2 => ?_⟩
          obtain ⟨r2, e2, hdb, T2D, T2L⟩ := new_facts (o := HO.tup [V.str (tx []), V.bl true]) hda nT2
          generalize upd G1 T2 (HO.tup [V.str (tx []), V.bl true]) = G2 at r2 e2 hdb ⊢
          have I2 : Itm K D L ls G2 (.ref T2) := ⟨T2, _, _, rfl, T2D, T2L, e2, .inl ⟨[], rfl, by simp⟩, .inl rfl⟩
          walk_at "rds"
          refine rd_addX (sz_of' (by show wd.length + 1 ≤ 1000; omega)) ?_
          walk_at "rds"
          refine ⟨(by show 2 ≤ sizeLine; decide), fun T3 nT3 => ?_⟩
          obtain ⟨r3, e3, hdc, T3D, T3L⟩ := new_facts (o := HO.tup [V.str (tx (wd ++ [64])), V.bl false]) hdb nT3
          generalize upd G2 T3 (HO.tup [V.str (tx (wd ++ [64])), V.bl false]) = G3 at r3 e3 hdc ⊢
          have I3 : Itm K D L ls G3 (.ref T3) := ⟨T3, _, _, rfl, T3D, T3L, e3, .inl ⟨wd ++ [64], rfl, by rw [List.length_append]; show wd.length + 1 ≤ 1000; omega⟩, .inl (by rw [tA _ 64 (by decide) (by simp)])⟩
          walk_at "rds"
          refine rd_listX (sz_of' (by omega)) fun pl npl => ?_
          obtain ⟨r4, e4, hdd, plD, plL⟩ := new_facts (o := HO.lst (sgs wd)) hdc npl
          generalize upd G3 pl (HO.lst (sgs wd)) = G4 at r4 e4 hdd ⊢
          walk_at "rds"
          refine ⟨(by show 2 ≤ sizeLine; decide), fun T4 nT4 => ?_⟩
          obtain ⟨r5, e5, hde, T4D, T4L⟩ := new_facts (o := HO.tup [V.ref pl, V.bl false]) hdd nT4
          generalize upd G4 T4 (HO.tup [V.ref pl, V.bl false]) = G5 at r5 e5 hde ⊢
          have I4 : Itm K D L ls G5 (.ref T4) := ⟨T4, _, _, rfl, T4D, T4L, e5, .inr (.inr ⟨pl, _, rfl, plD, plL, .inl (SqL.of (r5 _ _ e4))⟩), .inl rfl⟩
          walk_at "rds"
          refine ⟨D, L, rfl, hde, fun x3 v3 G6 m3 d3 nr3 kp6 hdf => ?_⟩
          walk_at "rds"
          refine ⟨(by show 2 ≤ sizeLine; decide), fun T5 nT5 => ?_⟩
          obtain ⟨r7, e7, hdg, T5D, T5L⟩ := new_facts (o := HO.tup [x3, V.non]) hdf nT5
          generalize upd G6 T5 (HO.tup [x3, V.non]) = G7 at r7 e7 hdg ⊢
          have I5 : Itm K D L ls G7 (.ref T5) := ⟨T5, _, _, rfl, T5D, T5L, e7, (Vk.of d3 m3 nr3).keep (Keep.of_same r7), .inr rfl⟩
          walk_at "rds"
          have k57 : Keep D L G5 G7 := kp6.trans (Keep.of_same r7)
          have k37 : Keep D L G3 G7 := (Keep.of_same (same_trans r4 r5)).trans k57
          have k27 : Keep D L G2 G7 := (Keep.of_same r3).trans k37
          have k17 : Keep D L G1 G7 := (Keep.of_same r2).trans k27
          refine ⟨(by show 5 ≤ sizeLine; decide), fun pS npS => ?_⟩
          obtain ⟨r8, e8, hdh, pSD, pSL⟩ := new_facts (o := HO.lst [V.ref T1, V.ref T2, V.ref T3, V.ref T4, V.ref T5]) hdg npS
          have hS1 : ∀ y o, G7 y = some o → y ≠ pS := fun y o h z => by rw [z, npS] at h; cases h
          have J1 := I1.keep k17
          have J2 := I2.keep k27
          have J3 := I3.keep k37
          have J4 := I4.keep k57
          generalize upd G7 pS (HO.lst [V.ref T1, V.ref T2, V.ref T3, V.ref T4, V.ref T5]) = G8 at r8 e8 hdh ⊢
          walk_at "rds"
          refine rd_tyL (SqL.of e8) ?_
          walk_at "rds"
          refine ⟨D, L, _, _, rfl, hdh, .inr ⟨_, rfl, rfl⟩, by decide, by decide, fun x6 G9 hx6 kp9 hdi => ?_⟩
          obtain ⟨c6, _, rfl⟩ := List.mem_map.mp hx6
          walk_at "rds"
          refine rd_addX (sz_of' (by show wd.length + 1 ≤ 1000; omega)) ?_
          walk_at "rds"
          refine ⟨(by show 2 ≤ sizeLine; decide), fun T6 nT6 => ?_⟩
          obtain ⟨r10, e10, hdj, T6D, T6L⟩ := new_facts (o := HO.tup [V.str (tx (wd ++ [c6])), V.non]) hdi nT6
          have hT6 : T6 ≠ pS := fun z => by rw [z, kp9 _ _ e8 pSD pSL] at nT6; cases nT6
          generalize upd G9 T6 (HO.tup [V.str (tx (wd ++ [c6])), V.non]) = G10 at r10 e10 hdj ⊢
          walk_at "rds"
          have e9 := r10 _ _ (kp9 _ _ e8 pSD pSL)
          refine rd_app e9 (by show 5 < sizeLine; decide) ?_
          have k711 : Keep D L G7 (upd G10 pS (HO.lst ([V.ref T1, V.ref T2, V.ref T3, V.ref T4, V.ref T5] ++ [V.ref T6]))) := Keep.mut (((Keep.of_same r8).trans kp9).trans (Keep.of_same r10)) npS
          have I6 : Itm K D L ls (upd G10 pS (HO.lst ([V.ref T1, V.ref T2, V.ref T3, V.ref T4, V.ref T5] ++ [V.ref T6]))) (.ref T6) := ⟨T6, _, _, rfl, T6D, T6L, by rw [upd_ne hT6]; exact e10, .inl ⟨wd ++ [c6], rfl, by rw [List.length_append]; show wd.length + 1 ≤ 1000; omega⟩, .inr rfl⟩
          have hdk : Deal D L (upd G10 pS (HO.lst ([V.ref T1, V.ref T2, V.ref T3, V.ref T4, V.ref T5] ++ [V.ref T6]))) := hdj.other pSD pSL
          have e11 : (upd G10 pS (HO.lst ([V.ref T1, V.ref T2, V.ref T3, V.ref T4, V.ref T5] ++ [V.ref T6]))) pS = some (HO.lst [V.ref T1, V.ref T2, V.ref T3, V.ref T4, V.ref T5, V.ref T6]) := upd_same
          generalize upd G10 pS (HO.lst ([V.ref T1, V.ref T2, V.ref T3, V.ref T4, V.ref T5] ++ [V.ref T6])) = G11 at k711 I6 hdk e11 ⊢
          have J1 := J1.keep k711
          have J2 := J2.keep k711
          have J3 := J3.keep k711
          have J4 := J4.keep k711
          have J5 := I5.keep k711
          clear I1 I2 I3 I4 I5 k17 k27 k37 k57 r1 r2 r3 r4 r5 r7 r8 e1 e2 e3 e4 e5 e7 e8 e9 e10 hda hdb hdc hdd hde hdf hdg hdh hdi hdj kp6 kp9
          walk_at "rds"
          refine rd_mulX (by decide) (by decide) (by show ls.length * 100 ≤ 100000; omega) ?_
          walk_at "rds"
          have hrl : (reps (Int.toNat 100) ls).length ≤ 500 := by
            rw [reps_len]
            show 100 * ls.length ≤ 500
            omega
          refine rd_slX (sz_of' (by omega)) ?_
          have ef : cutL (reps (Int.toNat 100) ls) none (some 200) = (reps (Int.toNat 100) ls).take 200 := cut_zero _ 200
          rw [ef]
          have hfl : ((reps (Int.toNat 100) ls).take 200).length ≤ 200 := by
            rw [List.length_take]
            omega
          have hfm : ∀ c ∈ (reps (Int.toNat 100) ls).take 200, c ∈ ls := fun c h => mem_reps (List.mem_of_mem_take h)
          generalize (reps (Int.toNat 100) ls).take 200 = fr at hfl hfm ⊢
          walk_at "rds"
          refine rd_cut (fun σ' H' => Same G11 H' ∧ ∃ p ys y11, σ' = [some (.ref a), some (.ref D), some (.int (0 + (i : Nat))), some (.str (tx ls)), some od, some (.str (tx alphabet)), some (.bl (areV od)), some (.str (tx wd)), some (.ref pS), some (.str (tx fr)), some (.ref p), y11, y12, y13, y14, y15] ∧ p ≠ D ∧ p ≠ L ∧ (H' p = some (.lst ys) ∨ H' p = some (.tup ys))) ?_ ?_
          · walk_at "rds"
            refine ⟨7, rfl, by decide, by decide, for_range (lo := 0) (n := (7 : Int).toNat) (fun j σ' H' => Same G11 H' ∧ ∃ dv y11, σ' = [some (.ref a), some (.ref D), some (.int (0 + (i : Nat))), some (.str (tx ls)), some od, some (.str (tx alphabet)), some (.bl (areV od)), some (.str (tx wd)), some (.ref pS), some (.str (tx fr)), some dv, y11, y12, y13, y14, y15] ∧ (0 < j → ∃ p ys, dv = .ref p ∧ p ≠ D ∧ p ≠ L ∧ (H' p = some (.lst ys) ∨ H' p = some (.tup ys)))) ⟨same_refl _, _, _, rfl, fun h => absurd h (by decide)⟩ ?_ ?_⟩
            · rintro j σ' H' hj ⟨sH, dv, y11, rfl, _⟩
              have hdl := hdk.keep sH
              walk_at "rds"
              refine rd_ite (fun _ => ?_) (fun _ => ?_)
              · walk_at "rds"
                refine ⟨(by show 1 ≤ sizeLine; decide), fun p np => ?_⟩
                walk_at "rds"
                exact ⟨same_trans sH (same_upd np), _, _, rfl, fun _ => ⟨p, _, rfl, (hdl.new np).1, (hdl.new np).2, .inl upd_same⟩⟩
              · walk_at "rds"
                refine ⟨(by show 1 ≤ sizeLine; decide), fun p np => ?_⟩
                walk_at "rds"
                exact ⟨same_trans sH (same_upd np), _, _, rfl, fun _ => ⟨p, _, rfl, (hdl.new np).1, (hdl.new np).2, .inr upd_same⟩⟩
            · rintro σ' H' ⟨sH, dv, y11, rfl, h⟩
              obtain ⟨p, ys, rfl, h1, h2, h3⟩ := h (by decide)
              exact ⟨sH, p, ys, y11, rfl, h1, h2, h3⟩
          · rintro σ8 G12 ⟨sG, pd, yd, y11, rfl, pdD, pdL, hpd⟩
            have hdm := hdk.keep sG
            walk_at "rds"
            have kG := Keep.of_same (D := D) (L := L) sG
            have hpS : G12 pS = some (HO.lst [V.ref T1, V.ref T2, V.ref T3, V.ref T4, V.ref T5, V.ref T6]) := sG _ _ e11
            have J1 := J1.keep kG
            have J2 := J2.keep kG
            have J3 := J3.keep kG
            have J4 := J4.keep kG
            have J5 := J5.keep kG
            have J6 := I6.keep kG
            have tF : isTxtB ls (.str (tx fr)) = true := by
              show consB ls fr = true
              unfold consB
              rw [List.all_eq_true]
              exact fun c hc => decide_eq_true (hfm c hc)
            have c199 : cutL fr none (some 199) = fr.take 199 := cut_zero _ 199
            have hcl : (fr.take 199).length ≤ 199 := by
              rw [List.length_take]
              omega
            refine ⟨(by show 2 ≤ sizeLine; decide), fun T7 nT7 => ?_⟩
            obtain ⟨r1, e1, hda, T7D, T7L⟩ := new_facts (o := HO.tup [V.str (tx fr), V.bl true]) hdm nT7
            generalize upd G12 T7 (HO.tup [V.str (tx fr), V.bl true]) = F1 at r1 e1 hda ⊢
            have I7 : Itm K D L ls F1 (.ref T7) := ⟨T7, _, _, rfl, T7D, T7L, e1, .inl ⟨fr, rfl, by omega⟩, .inl (by rw [tF])⟩
            walk_at "rds"
            refine rd_slX (sz_of' (by omega)) ?_
            rw [c199]
            walk_at "rds"
            refine rd_addX (sz_of' (by show (fr.take 199).length + 1 ≤ 1000; omega)) ?_
            walk_at "rds"
            refine ⟨(by show 2 ≤ sizeLine; decide), fun T8 nT8 => ?_⟩
            obtain ⟨r2, e2, hdb, T8D, T8L⟩ := new_facts (o := HO.tup [V.str (tx (fr.take 199 ++ [126])), V.bl false]) hda nT8
            generalize upd F1 T8 (HO.tup [V.str (tx (fr.take 199 ++ [126])), V.bl false]) = F2 at r2 e2 hdb ⊢
            have I8 : Itm K D L ls F2 (.ref T8) := ⟨T8, _, _, rfl, T8D, T8L, e2, .inl ⟨_, rfl, by rw [List.length_append]; show (fr.take 199).length + 1 ≤ 1000; omega⟩, .inl (by rw [tA _ 126 (by decide) (by simp)])⟩
            walk_at "rds"
            refine rd_slX (sz_of' (by omega)) ?_
            rw [c199]
            walk_at "rds"
            refine rd_addX (sz_of' (by show 1 + (fr.take 199).length ≤ 1000; omega)) ?_
            walk_at "rds"
            refine ⟨(by show 2 ≤ sizeLine; decide), fun T9 nT9 => ?_⟩
            obtain ⟨r3, e3, hdc, T9D, T9L⟩ := new_facts (o := HO.tup [V.str (tx ([64] ++ fr.take 199)), V.bl false]) hdb nT9
            generalize upd F2 T9 (HO.tup [V.str (tx ([64] ++ fr.take 199)), V.bl false]) = F3 at r3 e3 hdc ⊢
            have I9 : Itm K D L ls F3 (.ref T9) := ⟨T9, _, _, rfl, T9D, T9L, e3, .inl ⟨_, rfl, by rw [List.length_append]; show 1 + (fr.take 199).length ≤ 1000; omega⟩, .inl (by rw [tA _ 64 (by decide) (by simp)])⟩
            walk_at "rds"
            refine ⟨(by show 2 ≤ sizeLine; decide), fun T10 nT10 => ?_⟩
            obtain ⟨r4, e4, hdd, T10D, T10L⟩ := new_facts (o := HO.tup [V.ref pd, V.bl false]) hdc nT10
            generalize upd F3 T10 (HO.tup [V.ref pd, V.bl false]) = F4 at r4 e4 hdd ⊢
            have s04 : Same G12 F4 := same_trans r1 (same_trans r2 (same_trans r3 r4))
            have I10 : Itm K D L ls F4 (.ref T10) := ⟨T10, _, _, rfl, T10D, T10L, e4, .inr (.inr (by
              rcases hpd with h | h
              · exact ⟨pd, yd, rfl, pdD, pdL, .inl (SqL.of (s04 _ _ h))⟩
              · exact ⟨pd, yd, rfl, pdD, pdL, .inr (SqT.of (s04 _ _ h))⟩)), .inl rfl⟩
            walk_at "rds"
            refine ⟨(by show 4 ≤ sizeLine; decide), fun p2 np2 => ?_⟩
            obtain ⟨r5, e5, hde, p2D, p2L⟩ := new_facts (o := HO.lst [V.ref T7, V.ref T8, V.ref T9, V.ref T10]) hdd np2
            generalize upd F4 p2 (HO.lst [V.ref T7, V.ref T8, V.ref T9, V.ref T10]) = F5 at r5 e5 hde ⊢
            refine rd_cat (r5 _ _ (s04 _ _ hpS)) e5 (sz_of' (by simp only [List.length_cons, List.length_nil]; omega)) fun p3 np3 => ?_
            obtain ⟨r6, e6, hdf, p3D, p3L⟩ := new_facts (o := HO.lst ([V.ref T1, V.ref T2, V.ref T3, V.ref T4, V.ref T5, V.ref T6] ++ [V.ref T7, V.ref T8, V.ref T9, V.ref T10])) hde np3
            generalize upd F5 p3 (HO.lst ([V.ref T1, V.ref T2, V.ref T3, V.ref T4, V.ref T5, V.ref T6] ++ [V.ref T7, V.ref T8, V.ref T9, V.ref T10])) = F6 at r6 e6 hdf ⊢
            have s46 : Same F4 F6 := same_trans r5 r6
            have s36 : Same F3 F6 := same_trans r4 s46
            have s26 : Same F2 F6 := same_trans r3 s36
            have s16 : Same F1 F6 := same_trans r2 s26
            have s06 : Same G12 F6 := same_trans r1 s16
            have hit : ∀ y ∈ [V.ref T1, V.ref T2, V.ref T3, V.ref T4, V.ref T5, V.ref T6] ++ [V.ref T7, V.ref T8, V.ref T9, V.ref T10], Itm K D L ls F6 y := by
              intro y hy
              simp only [List.cons_append, List.nil_append, List.mem_cons, List.not_mem_nil, or_false] at hy
              rcases hy with rfl | rfl | rfl | rfl | rfl | rfl | rfl | rfl | rfl | rfl
              · exact J1.keep (Keep.of_same s06)
              · exact J2.keep (Keep.of_same s06)
              · exact J3.keep (Keep.of_same s06)
              · exact J4.keep (Keep.of_same s06)
              · exact J5.keep (Keep.of_same s06)
              · exact J6.keep (Keep.of_same s06)
              · exact I7.keep (Keep.of_same s16)
              · exact I8.keep (Keep.of_same s26)
              · exact I9.keep (Keep.of_same s36)
              · exact I10.keep (Keep.of_same s46)
            generalize [V.ref T1, V.ref T2, V.ref T3, V.ref T4, V.ref T5, V.ref T6] ++ [V.ref T7, V.ref T8, V.ref T9, V.ref T10] = its at hit e6
            walk_at "rds"
            refine ⟨_, rfl, ⟨_, SqL.of e6⟩, for_list (K := K) (a := p3) (xs := its) (fun j σ' H' => Same F6 H' ∧ ∃ y12 y13 y14, σ' = [some (.ref a), some (.ref D), some (.int (0 + (i : Nat))), some (.str (tx ls)), some od, some (.str (tx alphabet)), some (.bl (areV od)), some (.str (tx wd)), some (.ref p3), some (.str (tx fr)), some (.ref pd), y11, y12, y13, y14, y15]) ⟨same_refl _, _, _, _, rfl⟩ (fun j σ' H' _ h => SqL.of (h.1 _ _ e6)) ?_ ?_⟩
            · rintro j y σ' H' hy ⟨sJ, y12, y13, y14, rfl⟩
              obtain ⟨Ty, v, dv, rfl, TyD, TyL, eT, hv, hdv⟩ := (hit y (List.mem_of_getElem? hy)).keep (Keep.of_same sJ)
              have hvo := hv.or
              refine rd_gtup (SqT.of eT) rfl ?_
              walk_at "rds"
              refine rd_cut (fun σ' H2 => Same H' H2 ∧ ∃ y14, σ' = [some (.ref a), some (.ref D), some (.int (0 + (i : Nat))), some (.str (tx ls)), some od, some (.str (tx alphabet)), some (.bl (areV od)), some (.str (tx wd)), some (.ref p3), some (.str (tx fr)), some (.ref pd), y11, some v, some (.bl (isTxtB ls v)), y14, y15]) ?_ ?_
              · walk_at "rds"
                rcases hdv with rfl | rfl
                · refine rd_ite (fun h => by simp at h) (fun _ => ?_)
                  walk_at "rds"
                  exact ⟨same_refl _, _, rfl⟩
                · refine rd_ite (fun _ => ?_) (fun h => by simp at h)
                  walk_at "rds"
                  rcases hvo with ⟨u, rfl, hu⟩ | ⟨⟨t, ty, kt⟩, hn⟩
                  · refine rd_isi (b := true) (.base (.str _)) (kit_ty (by decide +kernel)) ?_
                    walk_at "rds"
                    refine rd_ite (fun _ => ?_) (fun h => by cases h)
                    walk_at "rds"
                    refine fun e ne => lc_text (l := u) (fun j H2 => Same H' H2 ∧ H2 e = some (.lst (sgs ((u.take j).filter fun c => !decide (c ∈ ls))))) ⟨same_upd ne, upd_same⟩ ?_ ?_
                    · rintro j c H2 hc ⟨sH, he⟩
                      walk_at "rds"
                      refine ⟨rfl, ?_⟩
                      walk_at "rds"
                      refine rd_ite (fun h => ?_) (fun h => ?_)
                      · walk_at "rds"
                        refine ⟨_, he, ?_, same_mut sH ne, ?_⟩
                        · rw [sgs_len]
                          have := List.length_filter_le (fun c => !decide (c ∈ ls)) (u.take j)
                          rw [List.length_take] at this
                          exact small1000 (by omega)
                        · rw [upd_same, filt_snoc hc]
                          have h' : (!decide (c ∈ ls)) = true := h
                          rw [if_pos h', sgs_app]
                          rfl
                      · refine ⟨sH, ?_⟩
                        have h' : ¬ (!decide (c ∈ ls)) = true := by
                          have h2 : (!decide (c ∈ ls)) = false := h
                          rw [h2]
                          decide
                        rw [filt_snoc hc, if_neg h', List.append_nil]
                        exact he
                    · rintro H2 ⟨sH, he⟩
                      rw [List.take_length] at he
                      walk_at "rds"
                      refine ⟨(by show 0 ≤ sizeLine; decide), fun p4 np4 => ?_⟩
                      have hne : p4 ≠ e := fun z => by rw [z, he] at np4; cases np4
                      refine rd_eqE (SqL.of (by rw [upd_ne hne.symm]; exact he)) (SqL.of upd_same) ?_
                      rw [sgs_isEmpty, filt2_nil]
                      walk_at "rds"
                      exact ⟨same_trans sH (same_upd np4), _, rfl⟩
                  · refine rd_isi ty kt ?_
                    walk_at "rds"
                    refine rd_ite (fun h => by cases h) (fun _ => ?_)
                    rw [isTxt_not hn]
                    walk_at "rds"
                    exact ⟨same_refl _, _, rfl⟩
              · rintro σ9 H2 ⟨s2, y14', rfl⟩
                walk_at "rds"
                refine ⟨ls, v, rfl, hvo.same s2, fun H3 s3 => ?_⟩
                have gb : ∀ b : Bool, Good (.bool b) := fun b => by cases b <;> exact ⟨by decide +kernel, by decide +kernel, by decide +kernel, by decide +kernel⟩
                walk_at "rds"
                refine rd_reprA (.bl _) (gb _) ?_
                walk_at "rds"
                refine rd_reprA (.bl _) (gb _) ?_
                walk_at "rds"
                refine rd_ite (fun h => by simp at h) (fun _ => ?_)
                walk_at "rds"
                exact ⟨same_trans sJ (same_trans s2 s3), _, _, _, rfl⟩
            · rintro σ' H' ⟨sJ, y12, y13, y14, rfl⟩
              exact ⟨hdf.keep sJ, _, _, _, _, _, _, _, _, _, _, _, _, _, _, rfl⟩
end
def kitsB (K : PySem.W.Frag) (cs : List Addr) (U : Addr) : Bool :=
  (List.range 13).all fun i => ((List.range 13).all fun j => decide (PySem.W.kitOne K (.ref (cs.getD i 0)) (.ref (cs.getD j 0)) = some (decide (i = j)))) &&
    (decide (PySem.W.kitOne K (.ref (cs.getD i 0)) (.ref U) = some (!decide (i = 12))) && (decide (PySem.W.kitOne K (.ref (cs.getD i 0)) (.type "ValueError") = some (!decide (i = 12))) && decide (PySem.W.kitOne K (.ref (cs.getD i 0)) (.type "KeyError") = some (decide (i = 12)))))
theorem kits_mk {K : PySem.W.Frag} {mg : Str → Option Value} {cs : List Addr} {U : Addr} (h : kitsB K cs U = true) (hc : ∀ i, i < 13 → cA mg i = cs.getD i 0) (hu : ca mg "UnderError" = U) (o : ∀ i, i < 13 → OxC K (cs.getD i 0)) : Kits K mg := by
  unfold kitsB at h
  rw [List.all_eq_true] at h
  have h1 : ∀ i, i < 13 → _ := fun i hi => h i (List.mem_range.mpr hi)
  refine ⟨fun i j hi hj => ?_, fun i hi => ?_, fun i hi => ?_, fun i hi => ?_, fun i hi => ?_⟩
  · have := (Bool.and_eq_true_iff.mp (h1 i hi)).1
    rw [List.all_eq_true] at this
    rw [hc i hi, hc j hj]
    exact of_decide_eq_true (this j (List.mem_range.mpr hj))
  · rw [hc i hi, hu]
    exact of_decide_eq_true (Bool.and_eq_true_iff.mp (Bool.and_eq_true_iff.mp (h1 i hi)).2).1
  · rw [hc i hi]
    exact of_decide_eq_true (Bool.and_eq_true_iff.mp (Bool.and_eq_true_iff.mp (Bool.and_eq_true_iff.mp (h1 i hi)).2).2).1
  · rw [hc i hi]
    exact of_decide_eq_true (Bool.and_eq_true_iff.mp (Bool.and_eq_true_iff.mp (Bool.and_eq_true_iff.mp (h1 i hi)).2).2).2
  · rw [hc i hi]
    exact o i hi
theorem all_mk {l : PySem.W.OpenLaw} {w : World} {K : PySem.W.Frag} {h : Heap} {mg : Str → Option Value} {fa f1 f2 f3 f4 f5 f6 f7 f8 f9 f10 f11 f12 f13 f14 f15 f16 f17 : Addr} (X : K.In h) (G : h.Ns mainGlobals mg) (hfa : mg "law" = some (.ref fa))
    {od1 od2 od3 od4 od5 od6 od7 od8 od9 od10 od11 od12 od13 od14 od15 od16 od17 an1 an2 an3 an4 an5 an6 an7 an8 an9 an10 an11 an12 an13 an14 an15 an16 an17 : Option Addr} {sl1 sl2 sl3 sl4 sl5 sl6 sl7 sl8 sl9 sl10 sl11 sl12 sl13 sl14 sl15 sl16 sl17 : Array (Option Value)} {oc1 oc2 oc3 oc4 oc5 oc6 oc7 oc8 oc9 oc10 oc11 oc12 oc13 oc14 oc15 oc16 oc17 kV1 kV2 kV3 kV4 kV5 kV6 kV7 kV8 kV9 kV10 kV11 kV12 kV13 kV14 kV15 kV16 kV17 dc1 dc2 dc3 dc4 dc5 dc6 dc7 dc8 dc9 dc10 dc11 dc12 dc13 dc14 dc15 dc16 dc17 pm1 pm2 pm3 pm4 pm5 pm6 pm7 pm8 pm9 pm10 pm11 pm12 pm13 pm14 pm15 pm16 pm17 cd1 cd2 cd3 cd4 cd5 cd6 cd7 cd8 cd9 cd10 cd11 cd12 cd13 cd14 cd15 cd16 cd17 ct1 ct2 ct3 ct4 ct5 ct6 ct7 ct8 ct9 ct10 ct11 ct12 ct13 ct14 ct15 ct16 ct17 : Value}
    {C1 C2 C3 C4 C5 C6 C7 C8 C9 C10 C11 C12 C13 C14 N1 N2 N3 N4 N5 N6 N7 N8 N9 N10 N11 N12 N13 N14 : Addr} {nm1 nm2 nm3 nm4 nm5 nm6 nm7 nm8 nm9 nm10 nm11 nm12 nm13 nm14 qn1 qn2 qn3 qn4 qn5 qn6 qn7 qn8 qn9 qn10 qn11 qn12 qn13 qn14 : Str} {bs1 bs2 bs3 bs4 bs5 bs6 bs7 bs8 bs9 bs10 bs11 bs12 bs13 bs14 sub1 sub2 sub3 sub4 sub5 sub6 sub7 sub8 sub9 sub10 sub11 sub12 sub13 sub14 : List Value} {sn1 sn2 sn3 sn4 sn5 sn6 sn7 sn8 sn9 sn10 sn11 sn12 sn13 sn14 : List Str} {ab1 ab2 ab3 ab4 ab5 ab6 ab7 ab8 ab9 ab10 ab11 ab12 ab13 ab14 : Bool} {col1 col2 col3 col4 col5 col6 col7 col8 col9 col10 col11 col12 col13 col14 : Option Bool} {dd1 dd2 dd3 dd4 dd5 dd6 dd7 dd8 dd9 dd10 dd11 dd12 dd13 dd14 : Option Addr} {m0_1 m0_2 m0_3 m0_4 m0_5 m0_6 m0_7 m0_8 m0_9 m0_10 m0_11 m0_12 m0_13 m0_14 m1_1 m1_2 m1_3 m1_4 m1_5 m1_6 m1_7 m1_8 m1_9 m1_10 m1_11 m1_12 m1_13 m1_14 m2_1 m2_2 m2_3 m2_4 m2_5 m2_6 m2_7 m2_8 m2_9 m2_10 m2_11 m2_12 m2_13 m2_14 m3_1 m3_2 m3_3 m3_4 m3_5 m3_6 m3_7 m3_8 m3_9 m3_10 m3_11 m3_12 m3_13 m3_14 m5_1 m5_2 m5_3 m5_4 m5_5 m5_6 m5_7 m5_8 m5_9 m5_10 m5_11 m5_12 m5_13 m5_14 : Option Value}
    {fI3 fI5 fI6 fI7 fI10 fI11 fI12 fI13 fI14 : Addr} {iod3 iod5 iod6 iod7 iod10 iod11 iod12 iod13 iod14 ian3 ian5 ian6 ian7 ian10 ian11 ian12 ian13 ian14 : Option Addr} {isl3 isl5 isl6 isl7 isl10 isl11 isl12 isl13 isl14 : Array (Option Value)} {ioc3 ioc5 ioc6 ioc7 ioc10 ioc11 ioc12 ioc13 ioc14 ikV3 ikV5 ikV6 ikV7 ikV10 ikV11 ikV12 ikV13 ikV14 idc3 idc5 idc6 idc7 idc10 idc11 idc12 idc13 idc14 ipm3 ipm5 ipm6 ipm7 ipm10 ipm11 ipm12 ipm13 ipm14 icd3 icd5 icd6 icd7 icd10 icd11 icd12 icd13 icd14 ict3 ict5 ict6 ict7 ict10 ict11 ict12 ict13 ict14 : Value}
    (g1 : PySem.W.nsIn K mainGlobals "UnderError" = some (some (.ref C1))) (x1 : K.lookup C1 = some (excClassObj nm1 qn1 C1 N1 bs1 [.type "ValueError", .type "Exception", .type "BaseException", .type "object"] true sn1 sub1 ab1 col1 dd1 m0_1 m1_1 m2_1 m3_1 m5_1 "ValueError.__new__")) (o1 : Un.clB K C1 = true)
    (e1 : PySem.W.excIn K C1 PySem.HandSPX.veTail "ValueError.__new__" = true)
    (g2 : PySem.W.nsIn K mainGlobals "InvalidLetters" = some (some (.ref C2))) (x2 : K.lookup C2 = some (excClassObj nm2 qn2 C2 N2 bs2 [.ref C1, .type "ValueError", .type "Exception", .type "BaseException", .type "object"] true sn2 sub2 ab2 col2 dd2 m0_2 m1_2 m2_2 m3_2 m5_2 "ValueError.__new__")) (o2 : Un.clB K C2 = true)
    (e2 : PySem.W.excIn K C2 PySem.HandSPX.veTail "ValueError.__new__" = true)
    (g3 : PySem.W.nsIn K mainGlobals "InvalidMade" = some (some (.ref C3))) (x3 : K.lookup C3 = some (excClassObj nm3 qn3 C3 N3 bs3 [.ref C1, .type "ValueError", .type "Exception", .type "BaseException", .type "object"] true sn3 sub3 ab3 col3 dd3 m0_3 m1_3 m2_3 m3_3 m5_3 "ValueError.__new__")) (o3 : Un.clB K C3 = true)
    (n3 : PySem.W.findIn K (.ref C3) "at" = some none) (i3 : PySem.W.findIn K (.ref C3) "__init__" = some (some (.ref fI3))) (t3 : PySem.W.typeIn K (.ref fI3) = some (.type "function"))
    (li3 : K.lookup fI3 = some ⟨ioc3, iod3, .func (PySem.W.fnOf "__init__" "InvalidMade.__init__" (defArgs s_InvalidMade) (defBody s_InvalidMade) (defScope s_InvalidMade) .none ikV3 idc3 ipm3 ian3 icd3 ict3), isl3⟩) (ci3 : PySem.W.codeIn K icd3 "InvalidMade.__init__" = true) (ki3 : PySem.W.keepIn K (.ref fI3) = true)
    (g4 : PySem.W.nsIn K mainGlobals "InvalidBound" = some (some (.ref C4))) (x4 : K.lookup C4 = some (excClassObj nm4 qn4 C4 N4 bs4 [.ref C1, .type "ValueError", .type "Exception", .type "BaseException", .type "object"] true sn4 sub4 ab4 col4 dd4 m0_4 m1_4 m2_4 m3_4 m5_4 "ValueError.__new__")) (o4 : Un.clB K C4 = true)
    (e4 : PySem.W.excIn K C4 PySem.HandSPX.veTail "ValueError.__new__" = true)
    (g5 : PySem.W.nsIn K mainGlobals "InvalidZone" = some (some (.ref C5))) (x5 : K.lookup C5 = some (excClassObj nm5 qn5 C5 N5 bs5 [.ref C1, .type "ValueError", .type "Exception", .type "BaseException", .type "object"] true sn5 sub5 ab5 col5 dd5 m0_5 m1_5 m2_5 m3_5 m5_5 "ValueError.__new__")) (o5 : Un.clB K C5 = true)
    (n5 : PySem.W.findIn K (.ref C5) "at" = some none) (i5 : PySem.W.findIn K (.ref C5) "__init__" = some (some (.ref fI5))) (t5 : PySem.W.typeIn K (.ref fI5) = some (.type "function"))
    (li5 : K.lookup fI5 = some ⟨ioc5, iod5, .func (PySem.W.fnOf "__init__" "InvalidZone.__init__" (defArgs s_InvalidZone) (defBody s_InvalidZone) (defScope s_InvalidZone) .none ikV5 idc5 ipm5 ian5 icd5 ict5), isl5⟩) (ci5 : PySem.W.codeIn K icd5 "InvalidZone.__init__" = true) (ki5 : PySem.W.keepIn K (.ref fI5) = true)
    (g6 : PySem.W.nsIn K mainGlobals "InvalidRow" = some (some (.ref C6))) (x6 : K.lookup C6 = some (excClassObj nm6 qn6 C6 N6 bs6 [.ref C1, .type "ValueError", .type "Exception", .type "BaseException", .type "object"] true sn6 sub6 ab6 col6 dd6 m0_6 m1_6 m2_6 m3_6 m5_6 "ValueError.__new__")) (o6 : Un.clB K C6 = true)
    (n6 : PySem.W.findIn K (.ref C6) "word" = some none) (i6 : PySem.W.findIn K (.ref C6) "__init__" = some (some (.ref fI6))) (t6 : PySem.W.typeIn K (.ref fI6) = some (.type "function"))
    (li6 : K.lookup fI6 = some ⟨ioc6, iod6, .func (PySem.W.fnOf "__init__" "InvalidRow.__init__" (defArgs s_InvalidRow) (defBody s_InvalidRow) (defScope s_InvalidRow) .none ikV6 idc6 ipm6 ian6 icd6 ict6), isl6⟩) (ci6 : PySem.W.codeIn K icd6 "InvalidRow.__init__" = true) (ki6 : PySem.W.keepIn K (.ref fI6) = true)
    (g7 : PySem.W.nsIn K mainGlobals "InvalidProgram" = some (some (.ref C7))) (x7 : K.lookup C7 = some (excClassObj nm7 qn7 C7 N7 bs7 [.ref C1, .type "ValueError", .type "Exception", .type "BaseException", .type "object"] true sn7 sub7 ab7 col7 dd7 m0_7 m1_7 m2_7 m3_7 m5_7 "ValueError.__new__")) (o7 : Un.clB K C7 = true)
    (n7 : PySem.W.findIn K (.ref C7) "at" = some none) (i7 : PySem.W.findIn K (.ref C7) "__init__" = some (some (.ref fI7))) (t7 : PySem.W.typeIn K (.ref fI7) = some (.type "function"))
    (li7 : K.lookup fI7 = some ⟨ioc7, iod7, .func (PySem.W.fnOf "__init__" "InvalidProgram.__init__" (defArgs s_InvalidProgram) (defBody s_InvalidProgram) (defScope s_InvalidProgram) .none ikV7 idc7 ipm7 ian7 icd7 ict7), isl7⟩) (ci7 : PySem.W.codeIn K icd7 "InvalidProgram.__init__" = true) (ki7 : PySem.W.keepIn K (.ref fI7) = true)
    (g8 : PySem.W.nsIn K mainGlobals "InvalidCommand" = some (some (.ref C8))) (x8 : K.lookup C8 = some (excClassObj nm8 qn8 C8 N8 bs8 [.ref C1, .type "ValueError", .type "Exception", .type "BaseException", .type "object"] true sn8 sub8 ab8 col8 dd8 m0_8 m1_8 m2_8 m3_8 m5_8 "ValueError.__new__")) (o8 : Un.clB K C8 = true)
    (e8 : PySem.W.excIn K C8 PySem.HandSPX.veTail "ValueError.__new__" = true)
    (g9 : PySem.W.nsIn K mainGlobals "Mismatch" = some (some (.ref C9))) (x9 : K.lookup C9 = some (excClassObj nm9 qn9 C9 N9 bs9 [.ref C1, .type "ValueError", .type "Exception", .type "BaseException", .type "object"] true sn9 sub9 ab9 col9 dd9 m0_9 m1_9 m2_9 m3_9 m5_9 "ValueError.__new__")) (o9 : Un.clB K C9 = true)
    (e9 : PySem.W.excIn K C9 PySem.HandSPX.veTail "ValueError.__new__" = true)
    (g10 : PySem.W.nsIn K mainGlobals "NoText" = some (some (.ref C10))) (x10 : K.lookup C10 = some (excClassObj nm10 qn10 C10 N10 bs10 [.ref C1, .type "ValueError", .type "Exception", .type "BaseException", .type "object"] true sn10 sub10 ab10 col10 dd10 m0_10 m1_10 m2_10 m3_10 m5_10 "ValueError.__new__")) (o10 : Un.clB K C10 = true)
    (n10 : PySem.W.findIn K (.ref C10) "value" = some none) (i10 : PySem.W.findIn K (.ref C10) "__init__" = some (some (.ref fI10))) (t10 : PySem.W.typeIn K (.ref fI10) = some (.type "function"))
    (li10 : K.lookup fI10 = some ⟨ioc10, iod10, .func (PySem.W.fnOf "__init__" "NoText.__init__" (defArgs s_NoText) (defBody s_NoText) (defScope s_NoText) .none ikV10 idc10 ipm10 ian10 icd10 ict10), isl10⟩) (ci10 : PySem.W.codeIn K icd10 "NoText.__init__" = true) (ki10 : PySem.W.keepIn K (.ref fI10) = true)
    (g11 : PySem.W.nsIn K mainGlobals "NoValue" = some (some (.ref C11))) (x11 : K.lookup C11 = some (excClassObj nm11 qn11 C11 N11 bs11 [.ref C1, .type "ValueError", .type "Exception", .type "BaseException", .type "object"] true sn11 sub11 ab11 col11 dd11 m0_11 m1_11 m2_11 m3_11 m5_11 "ValueError.__new__")) (o11 : Un.clB K C11 = true)
    (n11 : PySem.W.findIn K (.ref C11) "value" = some none) (i11 : PySem.W.findIn K (.ref C11) "__init__" = some (some (.ref fI11))) (t11 : PySem.W.typeIn K (.ref fI11) = some (.type "function"))
    (li11 : K.lookup fI11 = some ⟨ioc11, iod11, .func (PySem.W.fnOf "__init__" "NoValue.__init__" (defArgs s_NoValue) (defBody s_NoValue) (defScope s_NoValue) .none ikV11 idc11 ipm11 ian11 icd11 ict11), isl11⟩) (ci11 : PySem.W.codeIn K icd11 "NoValue.__init__" = true) (ki11 : PySem.W.keepIn K (.ref fI11) = true)
    (g12 : PySem.W.nsIn K mainGlobals "NoName" = some (some (.ref C12))) (x12 : K.lookup C12 = some (excClassObj nm12 qn12 C12 N12 bs12 [.ref C1, .type "ValueError", .type "Exception", .type "BaseException", .type "object"] true sn12 sub12 ab12 col12 dd12 m0_12 m1_12 m2_12 m3_12 m5_12 "ValueError.__new__")) (o12 : Un.clB K C12 = true)
    (n12 : PySem.W.findIn K (.ref C12) "number" = some none) (i12 : PySem.W.findIn K (.ref C12) "__init__" = some (some (.ref fI12))) (t12 : PySem.W.typeIn K (.ref fI12) = some (.type "function"))
    (li12 : K.lookup fI12 = some ⟨ioc12, iod12, .func (PySem.W.fnOf "__init__" "NoName.__init__" (defArgs s_NoName) (defBody s_NoName) (defScope s_NoName) .none ikV12 idc12 ipm12 ian12 icd12 ict12), isl12⟩) (ci12 : PySem.W.codeIn K icd12 "NoName.__init__" = true) (ki12 : PySem.W.keepIn K (.ref fI12) = true)
    (g13 : PySem.W.nsIn K mainGlobals "NoRow" = some (some (.ref C13))) (x13 : K.lookup C13 = some (excClassObj nm13 qn13 C13 N13 bs13 [.ref C1, .type "ValueError", .type "Exception", .type "BaseException", .type "object"] true sn13 sub13 ab13 col13 dd13 m0_13 m1_13 m2_13 m3_13 m5_13 "ValueError.__new__")) (o13 : Un.clB K C13 = true)
    (n13 : PySem.W.findIn K (.ref C13) "at" = some none) (i13 : PySem.W.findIn K (.ref C13) "__init__" = some (some (.ref fI13))) (t13 : PySem.W.typeIn K (.ref fI13) = some (.type "function"))
    (li13 : K.lookup fI13 = some ⟨ioc13, iod13, .func (PySem.W.fnOf "__init__" "NoRow.__init__" (defArgs s_NoRow) (defBody s_NoRow) (defScope s_NoRow) .none ikV13 idc13 ipm13 ian13 icd13 ict13), isl13⟩) (ci13 : PySem.W.codeIn K icd13 "NoRow.__init__" = true) (ki13 : PySem.W.keepIn K (.ref fI13) = true)
    (g14 : PySem.W.nsIn K mainGlobals "NoKey" = some (some (.ref C14))) (x14 : K.lookup C14 = some (excClassObj nm14 qn14 C14 N14 bs14 [.type "KeyError", .type "LookupError", .type "Exception", .type "BaseException", .type "object"] true sn14 sub14 ab14 col14 dd14 m0_14 m1_14 m2_14 m3_14 m5_14 "LookupError.__new__")) (o14 : Un.clB K C14 = true)
    (n14 : PySem.W.findIn K (.ref C14) "key" = some none) (i14 : PySem.W.findIn K (.ref C14) "__init__" = some (some (.ref fI14))) (t14 : PySem.W.typeIn K (.ref fI14) = some (.type "function"))
    (li14 : K.lookup fI14 = some ⟨ioc14, iod14, .func (PySem.W.fnOf "__init__" "NoKey.__init__" (defArgs s_NoKey) (defBody s_NoKey) (defScope s_NoKey) .none ikV14 idc14 ipm14 ian14 icd14 ict14), isl14⟩) (ci14 : PySem.W.codeIn K icd14 "NoKey.__init__" = true) (ki14 : PySem.W.keepIn K (.ref fI14) = true)
    (a1 : PySem.W.nsIn K mainGlobals "check_letters" = some (some (.ref f1))) (l1 : K.lookup f1 = some ⟨oc1, od1, .func (PySem.W.fnOf "check_letters" "check_letters" (defArgs s_check_letters) (defBody s_check_letters) (defScope s_check_letters) .none kV1 dc1 pm1 an1 cd1 ct1), sl1⟩) (c1 : PySem.W.codeIn K cd1 "check_letters" = true) (k1 : PySem.W.keepIn K (.ref f1) = true)
    (a2 : PySem.W.nsIn K mainGlobals "_are_letters" = some (some (.ref f2))) (l2 : K.lookup f2 = some ⟨oc2, od2, .func (PySem.W.fnOf "_are_letters" "_are_letters" (defArgs s__are_letters) (defBody s__are_letters) (defScope s__are_letters) .none kV2 dc2 pm2 an2 cd2 ct2), sl2⟩) (c2 : PySem.W.codeIn K cd2 "_are_letters" = true) (k2 : PySem.W.keepIn K (.ref f2) = true)
    (a3 : PySem.W.nsIn K mainGlobals "_consists_of" = some (some (.ref f3))) (l3 : K.lookup f3 = some ⟨oc3, od3, .func (PySem.W.fnOf "_consists_of" "_consists_of" (defArgs s__consists_of) (defBody s__consists_of) (defScope s__consists_of) .none kV3 dc3 pm3 an3 cd3 ct3), sl3⟩) (c3 : PySem.W.codeIn K cd3 "_consists_of" = true) (k3 : PySem.W.keepIn K (.ref f3) = true)
    (a4 : PySem.W.nsIn K mainGlobals "_ascends" = some (some (.ref f4))) (l4 : K.lookup f4 = some ⟨oc4, od4, .func (PySem.W.fnOf "_ascends" "_ascends" (defArgs s__ascends) (defBody s__ascends) (defScope s__ascends) .none kV4 dc4 pm4 an4 cd4 ct4), sl4⟩) (c4 : PySem.W.codeIn K cd4 "_ascends" = true) (k4 : PySem.W.keepIn K (.ref f4) = true)
    (a5 : PySem.W.nsIn K mainGlobals "is_text" = some (some (.ref f5))) (l5 : K.lookup f5 = some ⟨oc5, od5, .func (PySem.W.fnOf "is_text" "is_text" (defArgs s_is_text) (defBody s_is_text) (defScope s_is_text) .none kV5 dc5 pm5 an5 cd5 ct5), sl5⟩) (c5 : PySem.W.codeIn K cd5 "is_text" = true) (k5 : PySem.W.keepIn K (.ref f5) = true)
    (a6 : PySem.W.nsIn K mainGlobals "_law_deal" = some (some (.ref f6))) (l6 : K.lookup f6 = some ⟨oc6, od6, .func (PySem.W.fnOf "_law_deal" "_law_deal" (defArgs s__law_deal) (defBody s__law_deal) (defScope s__law_deal) .none kV6 dc6 pm6 an6 cd6 ct6), sl6⟩) (c6 : PySem.W.codeIn K cd6 "_law_deal" = true) (k6 : PySem.W.keepIn K (.ref f6) = true)
    (a7 : PySem.W.nsIn K mainGlobals "_law_draw" = some (some (.ref f7))) (l7 : K.lookup f7 = some ⟨oc7, od7, .func (PySem.W.fnOf "_law_draw" "_law_draw" (defArgs s__law_draw) (defBody s__law_draw) (defScope s__law_draw) .none kV7 dc7 pm7 an7 cd7 ct7), sl7⟩) (c7 : PySem.W.codeIn K cd7 "_law_draw" = true) (k7 : PySem.W.keepIn K (.ref f7) = true)
    (a8 : PySem.W.nsIn K mainGlobals "_law_pick" = some (some (.ref f8))) (l8 : K.lookup f8 = some ⟨oc8, od8, .func (PySem.W.fnOf "_law_pick" "_law_pick" (defArgs s__law_pick) (defBody s__law_pick) (defScope s__law_pick) .none kV8 dc8 pm8 an8 cd8 ct8), sl8⟩) (c8 : PySem.W.codeIn K cd8 "_law_pick" = true) (k8 : PySem.W.keepIn K (.ref f8) = true)
    (a9 : PySem.W.nsIn K mainGlobals "_law_letters" = some (some (.ref f9))) (l9 : K.lookup f9 = some ⟨oc9, od9, .func (PySem.W.fnOf "_law_letters" "_law_letters" (defArgs s__law_letters) (defBody s__law_letters) (defScope s__law_letters) .none kV9 dc9 pm9 an9 cd9 ct9), sl9⟩) (c9 : PySem.W.codeIn K cd9 "_law_letters" = true) (k9 : PySem.W.keepIn K (.ref f9) = true)
    (a10 : PySem.W.nsIn K mainGlobals "_law_word" = some (some (.ref f10))) (l10 : K.lookup f10 = some ⟨oc10, od10, .func (PySem.W.fnOf "_law_word" "_law_word" (defArgs s__law_word) (defBody s__law_word) (defScope s__law_word) .none kV10 dc10 pm10 an10 cd10 ct10), sl10⟩) (c10 : PySem.W.codeIn K cd10 "_law_word" = true) (k10 : PySem.W.keepIn K (.ref f10) = true)
    (a11 : PySem.W.nsIn K mainGlobals "_law_value" = some (some (.ref f11))) (l11 : K.lookup f11 = some ⟨oc11, od11, .func (PySem.W.fnOf "_law_value" "_law_value" (defArgs s__law_value) (defBody s__law_value) (defScope s__law_value) .none kV11 dc11 pm11 an11 cd11 ct11), sl11⟩) (c11 : PySem.W.codeIn K cd11 "_law_value" = true) (k11 : PySem.W.keepIn K (.ref f11) = true)
    (a12 : PySem.W.nsIn K mainGlobals "_law_kinds" = some (some (.ref f12))) (l12 : K.lookup f12 = some ⟨oc12, od12, .func (PySem.W.fnOf "_law_kinds" "_law_kinds" (defArgs s__law_kinds) (defBody s__law_kinds) (defScope s__law_kinds) .none kV12 dc12 pm12 an12 cd12 ct12), sl12⟩) (c12 : PySem.W.codeIn K cd12 "_law_kinds" = true) (k12 : PySem.W.keepIn K (.ref f12) = true)
    (a13 : PySem.W.nsIn K mainGlobals "_law_errors_right" = some (some (.ref f13))) (l13 : K.lookup f13 = some ⟨oc13, od13, .func (PySem.W.fnOf "_law_errors_right" "_law_errors_right" (defArgs s__law_errors_right) (defBody s__law_errors_right) (defScope s__law_errors_right) .none kV13 dc13 pm13 an13 cd13 ct13), sl13⟩) (c13 : PySem.W.codeIn K cd13 "_law_errors_right" = true) (k13 : PySem.W.keepIn K (.ref f13) = true)
    (a14 : PySem.W.nsIn K mainGlobals "_law_keeps_itself" = some (some (.ref f14))) (l14 : K.lookup f14 = some ⟨oc14, od14, .func (PySem.W.fnOf "_law_keeps_itself" "_law_keeps_itself" (defArgs s__law_keeps_itself) (defBody s__law_keeps_itself) (defScope s__law_keeps_itself) .none kV14 dc14 pm14 an14 cd14 ct14), sl14⟩) (c14 : PySem.W.codeIn K cd14 "_law_keeps_itself" = true) (k14 : PySem.W.keepIn K (.ref f14) = true)
    (a15 : PySem.W.nsIn K mainGlobals "_law_told" = some (some (.ref f15))) (l15 : K.lookup f15 = some ⟨oc15, od15, .func (PySem.W.fnOf "_law_told" "_law_told" (defArgs s__law_told) (defBody s__law_told) (defScope s__law_told) .none kV15 dc15 pm15 an15 cd15 ct15), sl15⟩) (c15 : PySem.W.codeIn K cd15 "_law_told" = true) (k15 : PySem.W.keepIn K (.ref f15) = true)
    (a16 : PySem.W.nsIn K mainGlobals "_law_spoilt" = some (some (.ref f16))) (l16 : K.lookup f16 = some ⟨oc16, od16, .func (PySem.W.fnOf "_law_spoilt" "_law_spoilt" (defArgs s__law_spoilt) (defBody s__law_spoilt) (defScope s__law_spoilt) .none kV16 dc16 pm16 an16 cd16 ct16), sl16⟩) (c16 : PySem.W.codeIn K cd16 "_law_spoilt" = true) (k16 : PySem.W.keepIn K (.ref f16) = true)
    (a17 : PySem.W.nsIn K mainGlobals "law" = some (some (.ref f17))) (l17 : K.lookup f17 = some ⟨oc17, od17, .func (PySem.W.fnOf "law" "law" (defArgs s_law) (defBody s_law) (defScope s_law) .none kV17 dc17 pm17 an17 cd17 ct17), sl17⟩) (c17 : PySem.W.codeIn K cd17 "law" = true) (k17 : PySem.W.keepIn K (.ref f17) = true)
    (z1 : PySem.W.nsIn K mainGlobals "KeyError" = some none)
    (z2 : PySem.W.nsIn K mainGlobals "ValueError" = some none)
    (z3 : PySem.W.nsIn K mainGlobals "all" = some none)
    (z4 : PySem.W.nsIn K mainGlobals "enumerate" = some none)
    (z5 : PySem.W.nsIn K mainGlobals "int" = some none)
    (z6 : PySem.W.nsIn K mainGlobals "isinstance" = some none)
    (z7 : PySem.W.nsIn K mainGlobals "len" = some none)
    (z8 : PySem.W.nsIn K mainGlobals "list" = some none)
    (z9 : PySem.W.nsIn K mainGlobals "range" = some none)
    (z10 : PySem.W.nsIn K mainGlobals "repr" = some none)
    (z11 : PySem.W.nsIn K mainGlobals "sorted" = some none)
    (z12 : PySem.W.nsIn K mainGlobals "str" = some none)
    (z13 : PySem.W.nsIn K mainGlobals "zip" = some none)
    {tq1 : Tok} (q1 : PySem.W.nsIn K mainGlobals "CHARACTERS" = some (some (.str "-./0123456789_abcdefghijklmnopqrstuvwxyz" tq1)))
    {tq2 : Tok} (q2 : PySem.W.nsIn K mainGlobals "FEWEST_LETTERS" = some (some (.int 2 tq2)))
    {tq3 : Tok} (q3 : PySem.W.nsIn K mainGlobals "MOST_LETTERS" = some (some (.int 5 tq3)))
    (kit : kitsB K [C2, C3, C4, C5, C6, C7, C8, C9, C10, C11, C12, C13, C14] C1 = true)
    : ∃ fd : FuncData, (∀ (s : Shared) (v : Value), BindsTo s fd ⟨[v], []⟩ [("_law_script", v)]) ∧ ∀ base : Heap, K.In base → base.Ns mainGlobals mg → FnG l.prog w K mg base 6 fa fd ["_law_script"] (spLaw K) := by
  have e := hfa.symm.trans (PySem.W.mg_of X G a17)
  cases e
  have F1 := fun_mk (st := s_check_letters) l1 c1 k1
  have b1 := F1.binds (ps := ["letters"]) fun _ _ _ _ _ _ us hl => match us, hl with | [_], _ => rfl
  have F2 := fun_mk (st := s__are_letters) l2 c2 k2
  have b2 := F2.binds (ps := ["value"]) fun _ _ _ _ _ _ us hl => match us, hl with | [_], _ => rfl
  have F3 := fun_mk (st := s__consists_of) l3 c3 k3
  have b3 := F3.binds (ps := ["characters", "text"]) fun _ _ _ _ _ _ us hl => match us, hl with | [_, _], _ => rfl
  have F4 := fun_mk (st := s__ascends) l4 c4 k4
  have b4 := F4.binds (ps := ["text"]) fun _ _ _ _ _ _ us hl => match us, hl with | [_], _ => rfl
  have F5 := fun_mk (st := s_is_text) l5 c5 k5
  have b5 := F5.binds (ps := ["letters", "value"]) fun _ _ _ _ _ _ us hl => match us, hl with | [_, _], _ => rfl
  have F6 := fun_mk (st := s__law_deal) l6 c6 k6
  have b6 := F6.binds (ps := ["_law_script", "_law_base"]) fun _ _ _ _ _ _ us hl => match us, hl with | [_, _], _ => rfl
  have F7 := fun_mk (st := s__law_draw) l7 c7 k7
  have b7 := F7.binds (ps := ["_law_deal_here", "_law_many"]) fun _ _ _ _ _ _ us hl => match us, hl with | [_, _], _ => rfl
  have F8 := fun_mk (st := s__law_pick) l8 c8 k8
  have b8 := F8.binds (ps := ["_law_deal_here", "_law_some"]) fun _ _ _ _ _ _ us hl => match us, hl with | [_, _], _ => rfl
  have F9 := fun_mk (st := s__law_letters) l9 c9 k9
  have b9 := F9.binds (ps := ["_law_deal_here", "_law_many"]) fun _ _ _ _ _ _ us hl => match us, hl with | [_, _], _ => rfl
  have F10 := fun_mk (st := s__law_word) l10 c10 k10
  have b10 := F10.binds (ps := ["_law_deal_here", "_law_letters_here", "_law_most"]) fun _ _ _ _ _ _ us hl => match us, hl with | [_, _, _], _ => rfl
  have F11 := fun_mk (st := s__law_value) l11 c11 k11
  have b11 := F11.binds (ps := ["_law_deal_here"]) fun _ _ _ _ _ _ us hl => match us, hl with | [_], _ => rfl
  have F12 := fun_mk (st := s__law_kinds) l12 c12 k12
  have b12 := F12.binds (ps := ["_law_error"]) fun _ _ _ _ _ _ us hl => match us, hl with | [_], _ => rfl
  have F13 := fun_mk (st := s__law_errors_right) l13 c13 k13
  have b13 := F13.binds (ps := ["_law_value_here"]) fun _ _ _ _ _ _ us hl => match us, hl with | [_], _ => rfl
  have F14 := fun_mk (st := s__law_keeps_itself) l14 c14 k14
  have b14 := F14.binds (ps := ["_law_value_here"]) fun _ _ _ _ _ _ us hl => match us, hl with | [_], _ => rfl
  have F15 := fun_mk (st := s__law_told) l15 c15 k15
  have b15 := F15.binds (ps := ["_law_value_here"]) fun _ _ _ _ _ _ us hl => match us, hl with | [_], _ => rfl
  have F16 := fun_mk (st := s__law_spoilt) l16 c16 k16
  have b16 := F16.binds (ps := ["_law_deal_here", "_law_letters_here"]) fun _ _ _ _ _ _ us hl => match us, hl with | [_, _], _ => rfl
  have F17 := fun_mk (st := s_law) l17 c17 k17
  have b17 := F17.binds (ps := ["_law_script"]) fun _ _ _ _ _ _ us hl => match us, hl with | [_], _ => rfl
  have ox1 : OxC K C1 := Un.oxc_ve x1 o1
  have cc1 : ca mg "UnderError" = C1 := ca_of (PySem.W.mg_of X G g1)
  have E1 : Err0 K mg "UnderError" (ca mg "UnderError") := by rw [cc1]; exact ⟨PySem.W.mg_of X G g1, ox1, e1⟩
  have ox2 : OxC K C2 := Un.oxc_vs x2 o2
  have cc2 : ca mg "InvalidLetters" = C2 := ca_of (PySem.W.mg_of X G g2)
  have E2 : Err0 K mg "InvalidLetters" (ca mg "InvalidLetters") := by rw [cc2]; exact ⟨PySem.W.mg_of X G g2, ox2, e2⟩
  have ox3 : OxC K C3 := Un.oxc_vs x3 o3
  have cc3 : ca mg "InvalidMade" = C3 := ca_of (PySem.W.mg_of X G g3)
  have FI3 := fun_mk (st := s_InvalidMade) li3 ci3 ki3
  have bI3 := FI3.binds (ps := ["self", "at"]) fun _ _ _ _ _ _ us hl => match us, hl with | [_, _], _ => rfl
  have E3 : ErrI K mg "InvalidMade" "InvalidMade.__init__" "at" s_InvalidMade (ca mg "InvalidMade") := by rw [cc3]; exact ⟨PySem.W.mg_of X G g3, ox3, n3, _, _, i3, t3, FI3, bI3⟩
  have ox4 : OxC K C4 := Un.oxc_vs x4 o4
  have cc4 : ca mg "InvalidBound" = C4 := ca_of (PySem.W.mg_of X G g4)
  have E4 : Err0 K mg "InvalidBound" (ca mg "InvalidBound") := by rw [cc4]; exact ⟨PySem.W.mg_of X G g4, ox4, e4⟩
  have ox5 : OxC K C5 := Un.oxc_vs x5 o5
  have cc5 : ca mg "InvalidZone" = C5 := ca_of (PySem.W.mg_of X G g5)
  have FI5 := fun_mk (st := s_InvalidZone) li5 ci5 ki5
  have bI5 := FI5.binds (ps := ["self", "at"]) fun _ _ _ _ _ _ us hl => match us, hl with | [_, _], _ => rfl
  have E5 : ErrI K mg "InvalidZone" "InvalidZone.__init__" "at" s_InvalidZone (ca mg "InvalidZone") := by rw [cc5]; exact ⟨PySem.W.mg_of X G g5, ox5, n5, _, _, i5, t5, FI5, bI5⟩
  have ox6 : OxC K C6 := Un.oxc_vs x6 o6
  have cc6 : ca mg "InvalidRow" = C6 := ca_of (PySem.W.mg_of X G g6)
  have FI6 := fun_mk (st := s_InvalidRow) li6 ci6 ki6
  have bI6 := FI6.binds (ps := ["self", "word"]) fun _ _ _ _ _ _ us hl => match us, hl with | [_, _], _ => rfl
  have E6 : ErrI K mg "InvalidRow" "InvalidRow.__init__" "word" s_InvalidRow (ca mg "InvalidRow") := by rw [cc6]; exact ⟨PySem.W.mg_of X G g6, ox6, n6, _, _, i6, t6, FI6, bI6⟩
  have ox7 : OxC K C7 := Un.oxc_vs x7 o7
  have cc7 : ca mg "InvalidProgram" = C7 := ca_of (PySem.W.mg_of X G g7)
  have FI7 := fun_mk (st := s_InvalidProgram) li7 ci7 ki7
  have bI7 := FI7.binds (ps := ["self", "at"]) fun _ _ _ _ _ _ us hl => match us, hl with | [_, _], _ => rfl
  have E7 : ErrI K mg "InvalidProgram" "InvalidProgram.__init__" "at" s_InvalidProgram (ca mg "InvalidProgram") := by rw [cc7]; exact ⟨PySem.W.mg_of X G g7, ox7, n7, _, _, i7, t7, FI7, bI7⟩
  have ox8 : OxC K C8 := Un.oxc_vs x8 o8
  have cc8 : ca mg "InvalidCommand" = C8 := ca_of (PySem.W.mg_of X G g8)
  have E8 : Err0 K mg "InvalidCommand" (ca mg "InvalidCommand") := by rw [cc8]; exact ⟨PySem.W.mg_of X G g8, ox8, e8⟩
  have ox9 : OxC K C9 := Un.oxc_vs x9 o9
  have cc9 : ca mg "Mismatch" = C9 := ca_of (PySem.W.mg_of X G g9)
  have E9 : Err0 K mg "Mismatch" (ca mg "Mismatch") := by rw [cc9]; exact ⟨PySem.W.mg_of X G g9, ox9, e9⟩
  have ox10 : OxC K C10 := Un.oxc_vs x10 o10
  have cc10 : ca mg "NoText" = C10 := ca_of (PySem.W.mg_of X G g10)
  have FI10 := fun_mk (st := s_NoText) li10 ci10 ki10
  have bI10 := FI10.binds (ps := ["self", "value"]) fun _ _ _ _ _ _ us hl => match us, hl with | [_, _], _ => rfl
  have E10 : ErrI K mg "NoText" "NoText.__init__" "value" s_NoText (ca mg "NoText") := by rw [cc10]; exact ⟨PySem.W.mg_of X G g10, ox10, n10, _, _, i10, t10, FI10, bI10⟩
  have ox11 : OxC K C11 := Un.oxc_vs x11 o11
  have cc11 : ca mg "NoValue" = C11 := ca_of (PySem.W.mg_of X G g11)
  have FI11 := fun_mk (st := s_NoValue) li11 ci11 ki11
  have bI11 := FI11.binds (ps := ["self", "value"]) fun _ _ _ _ _ _ us hl => match us, hl with | [_, _], _ => rfl
  have E11 : ErrI K mg "NoValue" "NoValue.__init__" "value" s_NoValue (ca mg "NoValue") := by rw [cc11]; exact ⟨PySem.W.mg_of X G g11, ox11, n11, _, _, i11, t11, FI11, bI11⟩
  have ox12 : OxC K C12 := Un.oxc_vs x12 o12
  have cc12 : ca mg "NoName" = C12 := ca_of (PySem.W.mg_of X G g12)
  have FI12 := fun_mk (st := s_NoName) li12 ci12 ki12
  have bI12 := FI12.binds (ps := ["self", "number"]) fun _ _ _ _ _ _ us hl => match us, hl with | [_, _], _ => rfl
  have E12 : ErrI K mg "NoName" "NoName.__init__" "number" s_NoName (ca mg "NoName") := by rw [cc12]; exact ⟨PySem.W.mg_of X G g12, ox12, n12, _, _, i12, t12, FI12, bI12⟩
  have ox13 : OxC K C13 := Un.oxc_vs x13 o13
  have cc13 : ca mg "NoRow" = C13 := ca_of (PySem.W.mg_of X G g13)
  have FI13 := fun_mk (st := s_NoRow) li13 ci13 ki13
  have bI13 := FI13.binds (ps := ["self", "at"]) fun _ _ _ _ _ _ us hl => match us, hl with | [_, _], _ => rfl
  have E13 : ErrI K mg "NoRow" "NoRow.__init__" "at" s_NoRow (ca mg "NoRow") := by rw [cc13]; exact ⟨PySem.W.mg_of X G g13, ox13, n13, _, _, i13, t13, FI13, bI13⟩
  have ox14 : OxC K C14 := Un.oxc_ke x14 o14
  have cc14 : ca mg "NoKey" = C14 := ca_of (PySem.W.mg_of X G g14)
  have FI14 := fun_mk (st := s_NoKey) li14 ci14 ki14
  have bI14 := FI14.binds (ps := ["self", "key"]) fun _ _ _ _ _ _ us hl => match us, hl with | [_, _], _ => rfl
  have E14 : ErrI K mg "NoKey" "NoKey.__init__" "key" s_NoKey (ca mg "NoKey") := by rw [cc14]; exact ⟨PySem.W.mg_of X G g14, ox14, n14, _, _, i14, t14, FI14, bI14⟩
  have T : Txt K mg := ⟨⟨_, _, F1, PySem.W.mg_of X G a1, b1⟩, ⟨_, _, F2, PySem.W.mg_of X G a2, b2⟩, ⟨_, _, F3, PySem.W.mg_of X G a3, b3⟩, ⟨_, _, F4, PySem.W.mg_of X G a4, b4⟩, ⟨_, _, F5, PySem.W.mg_of X G a5, b5⟩, ⟨_, _, F6, PySem.W.mg_of X G a6, b6⟩, ⟨_, _, F7, PySem.W.mg_of X G a7, b7⟩, ⟨_, _, F8, PySem.W.mg_of X G a8, b8⟩, ⟨_, _, F9, PySem.W.mg_of X G a9, b9⟩, ⟨_, _, F10, PySem.W.mg_of X G a10, b10⟩, ⟨_, _, F11, PySem.W.mg_of X G a11, b11⟩, ⟨_, _, F12, PySem.W.mg_of X G a12, b12⟩, ⟨_, _, F13, PySem.W.mg_of X G a13, b13⟩, ⟨_, _, F14, PySem.W.mg_of X G a14, b14⟩, ⟨_, _, F15, PySem.W.mg_of X G a15, b15⟩, ⟨_, _, F16, PySem.W.mg_of X G a16, b16⟩, ⟨_, _, F17, PySem.W.mg_of X G a17, b17⟩, E1, E2, E3, E4, E5, E6, E7, E8, E9, E10, E11, E12, E13, E14, PySem.W.mg_none_of X G z1, PySem.W.mg_none_of X G z2, PySem.W.mg_none_of X G z3, PySem.W.mg_none_of X G z4, PySem.W.mg_none_of X G z5, PySem.W.mg_none_of X G z6, PySem.W.mg_none_of X G z7, PySem.W.mg_none_of X G z8, PySem.W.mg_none_of X G z9, PySem.W.mg_none_of X G z10, PySem.W.mg_none_of X G z11, PySem.W.mg_none_of X G z12, PySem.W.mg_none_of X G z13, ⟨_, PySem.W.mg_of X G q1⟩, ⟨_, PySem.W.mg_of X G q2⟩, ⟨_, PySem.W.mg_of X G q3⟩⟩
  have Z : Kits K mg := kits_mk kit (fun i hi => by
    rcases i with _ | _ | _ | _ | _ | _ | _ | _ | _ | _ | _ | _ | _ | i
    · exact cc2
    · exact cc3
    · exact cc4
    · exact cc5
    · exact cc6
    · exact cc7
    · exact cc8
    · exact cc9
    · exact cc10
    · exact cc11
    · exact cc12
    · exact cc13
    · exact cc14
    · omega) cc1 (fun i hi => by
    rcases i with _ | _ | _ | _ | _ | _ | _ | _ | _ | _ | _ | _ | _ | i
    · exact ox2
    · exact ox3
    · exact ox4
    · exact ox5
    · exact ox6
    · exact ox7
    · exact ox8
    · exact ox9
    · exact ox10
    · exact ox11
    · exact ox12
    · exact ox13
    · exact ox14
    · omega)
  exact ⟨PySem.W.fnOf "law" "law" (defArgs s_law) (defBody s_law) (defScope s_law) .none kV17 dc17 pm17 an17 cd17 ct17, fun s v => .of_eq rfl, fun base _ _ => ok_law T Z F17⟩
end Zk01
open PySem PySem.W PyProof.Rows
set_option maxRecDepth 100000 in
set_option maxHeartbeats 0 in
theorem PySem.Challenge.cw_undername_k01_errors_and_letters_holds : PySem.Challenge.rw_undername_k01_errors_and_letters.Holds := by
  w_on; o_law; k_head; (case hw => w_witness2)
  k_fill
  refine Un.walk_ofG (l := PySem.Challenge.rw_undername_k01_errors_and_letters) (n := 63) (k := 6) (x := "_law_script") (sp := fun w => Zk01.spLaw _) rfl (by decide) rfl ⟨rfl, by decide, by decide⟩ (fun w h Y => PySem.W.kIn_of Y) ?F (fun _ _ a ns hl _ hS => ⟨a, ns, rfl, hS, hl, fun _ => rfl⟩)
  case F =>
    intro w mg fa h KX G hmg
    refine' Zk01.all_mk KX G hmg ?g1 ?x1 ?o1 ?e1 ?g2 ?x2 ?o2 ?e2 ?g3 ?x3 ?o3 ?n3 ?i3 ?t3 ?li3 ?ci3 ?ki3 ?g4 ?x4 ?o4 ?e4 ?g5 ?x5 ?o5 ?n5 ?i5 ?t5 ?li5 ?ci5 ?ki5 ?g6 ?x6 ?o6 ?n6 ?i6 ?t6 ?li6 ?ci6 ?ki6 ?g7 ?x7 ?o7 ?n7 ?i7 ?t7 ?li7 ?ci7 ?ki7 ?g8 ?x8 ?o8 ?e8 ?g9 ?x9 ?o9 ?e9 ?g10 ?x10 ?o10 ?n10 ?i10 ?t10 ?li10 ?ci10 ?ki10 ?g11 ?x11 ?o11 ?n11 ?i11 ?t11 ?li11 ?ci11 ?ki11 ?g12 ?x12 ?o12 ?n12 ?i12 ?t12 ?li12 ?ci12 ?ki12 ?g13 ?x13 ?o13 ?n13 ?i13 ?t13 ?li13 ?ci13 ?ki13 ?g14 ?x14 ?o14 ?n14 ?i14 ?t14 ?li14 ?ci14 ?ki14 ?a1 ?l1 ?c1 ?k1 ?a2 ?l2 ?c2 ?k2 ?a3 ?l3 ?c3 ?k3 ?a4 ?l4 ?c4 ?k4 ?a5 ?l5 ?c5 ?k5 ?a6 ?l6 ?c6 ?k6 ?a7 ?l7 ?c7 ?k7 ?a8 ?l8 ?c8 ?k8 ?a9 ?l9 ?c9 ?k9 ?a10 ?l10 ?c10 ?k10 ?a11 ?l11 ?c11 ?k11 ?a12 ?l12 ?c12 ?k12 ?a13 ?l13 ?c13 ?k13 ?a14 ?l14 ?c14 ?k14 ?a15 ?l15 ?c15 ?k15 ?a16 ?l16 ?c16 ?k16 ?a17 ?l17 ?c17 ?k17 ?z1 ?z2 ?z3 ?z4 ?z5 ?z6 ?z7 ?z8 ?z9 ?z10 ?z11 ?z12 ?z13 ?q1 ?q2 ?q3 ?kit
    (case g1 => k_is); (case x1 => k_is); (case o1 => kernel_rfl); (case e1 => kernel_rfl); (case g2 => k_is); (case x2 => k_is); (case o2 => kernel_rfl); (case e2 => kernel_rfl)
    (case g3 => k_is); (case x3 => k_is); (case o3 => kernel_rfl); (case n3 => k_is); (case i3 => k_is); (case t3 => k_is); (case li3 => k_is); (case ci3 => k_is)
    (case ki3 => k_is); (case g4 => k_is); (case x4 => k_is); (case o4 => kernel_rfl); (case e4 => kernel_rfl); (case g5 => k_is); (case x5 => k_is); (case o5 => kernel_rfl)
    (case n5 => k_is); (case i5 => k_is); (case t5 => k_is); (case li5 => k_is); (case ci5 => k_is); (case ki5 => k_is); (case g6 => k_is); (case x6 => k_is)
    (case o6 => kernel_rfl); (case n6 => k_is); (case i6 => k_is); (case t6 => k_is); (case li6 => k_is); (case ci6 => k_is); (case ki6 => k_is); (case g7 => k_is)
    (case x7 => k_is); (case o7 => kernel_rfl); (case n7 => k_is); (case i7 => k_is); (case t7 => k_is); (case li7 => k_is); (case ci7 => k_is); (case ki7 => k_is)
    (case g8 => k_is); (case x8 => k_is); (case o8 => kernel_rfl); (case e8 => kernel_rfl); (case g9 => k_is); (case x9 => k_is); (case o9 => kernel_rfl); (case e9 => kernel_rfl)
    (case g10 => k_is); (case x10 => k_is); (case o10 => kernel_rfl); (case n10 => k_is); (case i10 => k_is); (case t10 => k_is); (case li10 => k_is); (case ci10 => k_is)
    (case ki10 => k_is); (case g11 => k_is); (case x11 => k_is); (case o11 => kernel_rfl); (case n11 => k_is); (case i11 => k_is); (case t11 => k_is); (case li11 => k_is)
    (case ci11 => k_is); (case ki11 => k_is); (case g12 => k_is); (case x12 => k_is); (case o12 => kernel_rfl); (case n12 => k_is); (case i12 => k_is); (case t12 => k_is)
    (case li12 => k_is); (case ci12 => k_is); (case ki12 => k_is); (case g13 => k_is); (case x13 => k_is); (case o13 => kernel_rfl); (case n13 => k_is); (case i13 => k_is)
    (case t13 => k_is); (case li13 => k_is); (case ci13 => k_is); (case ki13 => k_is); (case g14 => k_is); (case x14 => k_is); (case o14 => kernel_rfl); (case n14 => k_is)
    (case i14 => k_is); (case t14 => k_is); (case li14 => k_is); (case ci14 => k_is); (case ki14 => k_is); (case a1 => k_is); (case l1 => k_is); (case c1 => k_is)
    (case k1 => k_is); (case a2 => k_is); (case l2 => k_is); (case c2 => k_is); (case k2 => k_is); (case a3 => k_is); (case l3 => k_is); (case c3 => k_is)
    (case k3 => k_is); (case a4 => k_is); (case l4 => k_is); (case c4 => k_is); (case k4 => k_is); (case a5 => k_is); (case l5 => k_is); (case c5 => k_is)
    (case k5 => k_is); (case a6 => k_is); (case l6 => k_is); (case c6 => k_is); (case k6 => k_is); (case a7 => k_is); (case l7 => k_is); (case c7 => k_is)
    (case k7 => k_is); (case a8 => k_is); (case l8 => k_is); (case c8 => k_is); (case k8 => k_is); (case a9 => k_is); (case l9 => k_is); (case c9 => k_is)
    (case k9 => k_is); (case a10 => k_is); (case l10 => k_is); (case c10 => k_is); (case k10 => k_is); (case a11 => k_is); (case l11 => k_is); (case c11 => k_is)
    (case k11 => k_is); (case a12 => k_is); (case l12 => k_is); (case c12 => k_is); (case k12 => k_is); (case a13 => k_is); (case l13 => k_is); (case c13 => k_is)
    (case k13 => k_is); (case a14 => k_is); (case l14 => k_is); (case c14 => k_is); (case k14 => k_is); (case a15 => k_is); (case l15 => k_is); (case c15 => k_is)
    (case k15 => k_is); (case a16 => k_is); (case l16 => k_is); (case c16 => k_is); (case k16 => k_is); (case a17 => k_is); (case l17 => k_is); (case c17 => k_is)
    (case k17 => k_is); (case z1 => k_is); (case z2 => k_is); (case z3 => k_is); (case z4 => k_is); (case z5 => k_is); (case z6 => k_is); (case z7 => k_is)
    (case z8 => k_is); (case z9 => k_is); (case z10 => k_is); (case z11 => k_is); (case z12 => k_is); (case z13 => k_is); (case q1 => k_is); (case q2 => k_is)
    (case q3 => k_is); (case kit => kernel_rfl)
