import PyProof.Rows.All
import Wide.All
import OpenK.AllK
import Wide.FinOn
import PyProof.EqAt
import PyProof.EqKinds
import PyProof.TupleCall
import PyProof.DictTable
import HandS.Base
import HandS.Call
import HandS.List
import HandS.Ends
import HandS.Dict
import HandS.More
import HandS.Exc
import HandS.ExcOwn
import HandS.ExcValue
import HandS.ExcIs
import HandS.ExcField
import HandS.ExcInit
import HandS.IsInst
import HandS.ForMost
import HandS.ForExc
import HandS.Style
import HandS.Flow
import HandS.Evl
import HandS.RaiseMore
import HandS.StrMore
import HandS.Replace
import HandS.WideBits
import HandS.TupAny
import PyProof.ListStr
import PyProof.StrBlock2
import KE.GoesZip
import KE.GoesMore
import HandS.Zip
import PyProof.ReprRoads
import HandS.EndBits
import HandS.WordsExc
import HandS.TryOnly
import PyProof.NeKinds
import HandS.OwnEq
import HandS.TryMany
import HandS.Defaults
import PyProof.Rows.SortShellAny
import HandS.ListItems
import HandS.Walk
import HandS.MakeKwOnly
import HandS.DictComp
import KE.KExcInit
import PyProof.ReprLen
import HandS.Conv
import PyProof.InstNe
import KE.KLam
import KE.KNestM
import HandS.Lambda
import HandS.EndTab
import PyProof.SliceStr2
import PyProof.SliceStr
import PySem.Challenge.RW_undername_k47_stores_refused
set_option Elab.async false
set_option linter.all false
set_option maxRecDepth 100000
set_option maxHeartbeats 4000000
/-! UnX: own exceptions as values (over any base), made with and without an own __init__, their fields read, isinstance of them. -/
namespace PySem
namespace OXX
open PySem.W PySem.Calls PyProof.Rows PySem.HandSPX
open Builtin Builtin.ObjectAttr
section
variable {M : Model} {A : Around} {E : Value → Shared → Prop} {h : Heap} {g : Array GenState} {d : Drawn} {t : Nat} {os : OsState}
variable {nm q : Str} {C N : Addr} {bs bm bmB : List Value} {hdct : Bool} {sn : List Str} {sub : List Value} {ab : Bool} {col : Option Bool} {dd : Option Addr} {k0 k1 k2 k3 k5 : Option Value} {B newId initId : String}
/-- what the classes behind an own class must hold -/
structure Beh (B : String) (bm : List Value) : Prop where
  b : bm.contains (.type B) = true
  na : bm.contains (.type "AttributeError") = false
  nn : bm.contains (.type "NameError") = false
  ob : bm.contains (.type "object") = true
theorem check_new_x (F : ExcBaseFacts B newId initId bmB) (hT : Beh B bm) {rest : List Value} {Q : Unit → Shared → Prop}
    (hC : h.get? C = some (excClassObj nm q C N bs bm hdct sn sub ab col dd k0 k1 k2 k3 k5 newId)) (hq : Q () ⟨h, g, d, t, os⟩) : wpAny M A (checkBuiltinCall newId ⟨.ref C :: rest, []⟩) Q E ⟨h, g, d, t, os⟩ := by
  have hcont : (Value.ref C :: bm).contains (.type B) = true := by rw [List.contains_cons, hT.b, Bool.or_true]
  have hstar := F.noStar
  simp only [checkBuiltinCall, F.newKind, F.newSplit, F.newRow]
  repeat (first | refine wpAny_loadPart_at hC ?_ | (refine wpAny_isSubtype_exc hC ?_; rw [hcont]) | refine wpAny_staticBase_exc hC ?_ | refine wpAny_madeBy_exc hC ?_ | simp only [bne_self_eq_false, Bool.false_eq_true, if_false] | wp_step)
  exact hq
end
section
variable {prog : Program} {w : World} {A : Around} {E : Value → Shared → Prop} {R : Result → Shared → Prop} {h : Heap} {g : Array GenState} {d : Drawn} {t : Nat} {os : OsState}
variable {nm q : Str} {C N : Addr} {bs bm bmB : List Value} {hdct : Bool} {sn : List Str} {sub : List Value} {ab : Bool} {col : Option Bool} {dd : Option Addr} {k0 k1 k2 k3 k5 : Option Value} {B newId initId : String}
theorem new_x (F : ExcBaseFacts B newId initId bmB) (hT : Beh B bm) {rest : List Value}
    (hC : h.get? C = some (excClassObj nm q C N bs bm hdct sn sub ab col dd k0 k1 k2 k3 k5 newId))
    (hq : R (.ok (.ret (.ref (h.objs.size + 1)))) ⟨(h.push { cls := .type "tuple", data := .seq rest.toArray }).push
      { cls := .ref C, data := .fields #[.ref h.objs.size, .none, .none, .none, .bool false, .none] }, g, d, t, os⟩) (hrest : rest.length ≤ sizeLine) :
    codeAny (model prog w) A (.builtin newId ⟨.ref C :: rest, []⟩) R ⟨h, g, d, t, os⟩ := by
  have hends := F.ends
  have hcB : (Value.ref C :: bm).contains (.type B) = true := by rw [List.contains_cons, hT.b, Bool.or_true]
  have hcA : (Value.ref C :: bm).contains (.type "AttributeError") = false := by rw [List.contains_cons, hT.na]; rfl
  have hcN : (Value.ref C :: bm).contains (.type "NameError") = false := by rw [List.contains_cons, hT.nn]; rfl
  refine codeAny_builtinAt F.entry ?_
  unfold Builtin.«BaseException.__new__»
  refine wpAt_bind ?_
  show wpAt _ _ _ (stack >>= _) _ _ _
  refine wpAt_bind (wpAt_stack fun p below => wpAt_of_wpAny ?_)
  wp_walk
  refine wpAt_of_wpAny ?_
  rw [F.owner]
  repeat (first | with_reducible refine wpAny_madeHere_exc F.canon hC ?_ | with_reducible refine wpAny_loadPart_at hC ?_ | (with_reducible refine wpAny_isSubtype_exc hC ?_; first | rw [hcB] | rw [hcA] | rw [hcN]) | wp_step)
  show R _ _
  rw [Heap.size_push]
  exact hq
theorem type_call_x (F : ExcBaseFacts B newId initId bmB) (hT : Beh B bm) {rest : List Value} {fI : Addr} {Q : Fin → Shared → Prop}
    (hC : h.get? C = some (excClassObj nm q C N bs bm hdct sn sub ab col dd k0 k1 k2 k3 k5 newId))
    (hi : W.Looks (model prog w) h (typeLookup (.ref C) "__init__") (some (.ref fI))) (hb : ∀ self, W.Looks (model prog w) h (bindSpecial (.ref fI) self) (.ref fI, [self])) (hrest : rest.length ≤ sizeLine)
    (hq : codeAny (model prog w) A (.call (.ref fI) ⟨.ref (h.objs.size + 1) :: rest, []⟩)
      (fun r s' => match r with | .ok (.ret v) => v = .none ∧ Q (.done (.ret (.ref (h.objs.size + 1)))) s' | .ok _ => False | .error e => E e s')
      ⟨(h.push (W.kdv_tup rest)).push (excO C h.objs.size), g, d, t, os⟩) :
    wpAny (model prog w) A (Builtin.«type.__call__» ⟨.ref C :: rest, []⟩) Q E ⟨h, g, d, t, os⟩ := by
  repeat (first | with_reducible refine wpAny_loadPart_at hC ?_ | with_reducible refine wpAny_madeBy_exc hC ?_ | wp_step)
  refine codeAny_call_builtin_code (Code.quiet_builtin _ F.quiet) (check_new_x F hT hC ?_)
  refine new_x F hT hC ?_ hrest
  show wpAny _ _ _ _ _ _
  have k : ∀ b o, h.get? b = some o → ((h.push (W.kdv_tup rest)).push (excO C h.objs.size)).get? b = some o := fun b o e => Heap.get?_push_of_some _ (Heap.get?_push_of_some _ e)
  have hC₁ := k _ _ hC
  have hget : ((h.push (W.kdv_tup rest)).push (excO C h.objs.size)).get? (h.objs.size + 1) = some (excO C h.objs.size) := by heap_get
  have hcC : (Value.ref C :: bm).contains (.ref C) = true := by simp
  have i1 := hi.keeps k
  have b1 := (hb (.ref (h.objs.size + 1))).keeps k
  unfold isInstance
  repeat (first | with_reducible refine wpAny_loadPart_at hget ?_ | (with_reducible refine wpAny_isSubtype_exc hC₁ ?_; rw [hcC]) | wp_step)
  show wpAny _ _ (typeLookup (.ref C) _) _ _ _
  refine i1.at ?_
  refine wpAny_holding (wpAny_bind (b1.at ?_))
  refine wpAny_bind (wpAny_call (codeAny_mono hq fun r s' z => ?_))
  rcases r with e | (v | _ | _ | _) <;> first | exact z | exact z.elim | skip
  obtain ⟨rfl, z⟩ := z
  first
    | exact wpAny_pure (wpAny_pure z)
    | (wp_walk; exact z)
theorem call_x (F : ExcBaseFacts B newId initId bmB) (hT : Beh B bm) {rest : List Value} {fI : Addr}
    (hC : h.get? C = some (excClassObj nm q C N bs bm hdct sn sub ab col dd k0 k1 k2 k3 k5 newId))
    (hi : W.Looks (model prog w) h (typeLookup (.ref C) "__init__") (some (.ref fI))) (hb : ∀ self, W.Looks (model prog w) h (bindSpecial (.ref fI) self) (.ref fI, [self])) (hrest : rest.length ≤ sizeLine)
    (hq : codeAny (model prog w) (A.under (.builtin "type.__call__" ⟨.ref C :: rest, []⟩)) (.call (.ref fI) ⟨.ref (h.objs.size + 1) :: rest, []⟩) (W.InitBack (h.objs.size + 1) R)
      ⟨(h.push (W.kdv_tup rest)).push (excO C h.objs.size), g, d, t, os⟩) :
    codeAny (model prog w) A (.call (.ref C) ⟨rest, []⟩) R ⟨h, g, d, t, os⟩ := by
  have f1 := tc_lookup
  have f2 := tc_bind (.ref C)
  have hTy : (⟨h, g, d, t, os⟩ : Shared).TypeIs (.ref C) "type" := ⟨_, hC, rfl⟩
  refine codeAny_of_tree ?_
  show wpAny _ _ (callAny (.ref C) _) _ _ _
  repeat (any_goals (first | assumption | with_reducible refine wpAny_loadPart_at hC ?_ | wp_step))
  refine ⟨rfl, ?_⟩
  refine codeAny_call_builtin_at (Code.quiet_builtin _ (by decide +kernel)) entry_typeCall (wpAny_check_type_call_sub hC (type_call_x F hT hC hi hb hrest ?_))
  refine codeAny_mono hq fun r s' z => ?_
  rcases r with e | (v | _ | _ | _) <;> exact z
end
section
variable {prog : Program} {w : World} {A : Around} {R : Result → Shared → Prop} {hp : Heap} {g : Array GenState} {d : Drawn} {t : Nat} {os : OsState}
theorem osa_x {K : W.Frag} {name : Str} {tk : Tok} {v : Value} {x C : Addr} {fv : Array Value} {cd : ClassData}
    (X : K.In hp) (hx : hp.get? x = some { cls := .ref C, data := .fields fv }) (hcd : W.clsIn K C = some cd) (hne : cd.mro.isEmpty = false) (hob : cd.mro.contains (.type "object") = true) (hps : refuseLoop (.ref x) "__setattr__" cd.mro = pure ()) (hh : cd.hasDict = true) (ha : W.findIn K (.ref C) name = some none)
    (hq : ∀ h' tk' dx, (∀ b o, b ≠ x → hp.get? b = some o → h'.get? b = some o) → hp.objs.size ≤ dx → dx ≠ x → h'.get? x = some { cls := .ref C, dict := some dx, data := .fields fv } →
      h'.Ns1 dx (fun y => if y = name then some v else none) → R (.ok (.ret .none)) ⟨h', g, d, tk', os⟩) :
    codeAny (model prog w) A (.call (.builtin "object.__setattr__") ⟨[.ref x, .str name tk, v], []⟩) R ⟨hp, g, d, t, os⟩ := by
  have I : W.InstAt hp x { cls := .ref C, data := .fields fv } C none := ⟨hx, rfl, rfl, trivial⟩
  have SF := F.store_object
  have hxs : x ≠ hp.objs.size := Nat.ne_of_lt (Heap.lt_size hx)
  have sub : W.Looks (model prog w) hp (isInstance (.ref x) (.type "object")) true := I.type.andThen (W.looks_mroIn X (by unfold W.mroIn; rw [hcd, Option.bind_some, if_neg (by rw [hne]; decide), hob]))
  refine codeAny_call_builtin SF.slot.plain SF.entry (@W.check_slot (model prog w) _ _ ⟨hp, g, d, t, os⟩ "object.__setattr__" "object" "__setattr__" (.ref x) [.str name tk, v] [] _ SF.kind SF.split sub (SF.args (.ref x) (.str name tk) v) ?_)
  have hmr : W.Looks (model prog w) hp (mroOf (.ref C)) cd.mro := (W.looks_clsIn X hcd).andThen .now
  have L3 : W.Looks (model prog w) hp (storeTaker? none) none := .now
  have hcls : W.Looks (model prog w) hp (classData C) cd := W.looks_clsIn X hcd
  rw [W.osa_eq, refuse_eq]
  refine wpAny_bind (wpAny_bind (I.type.at (wpAny_bind (hmr.at ?_))))
  rw [hps]
  refine wpAny_pure (wpAny_bind (I.type.at (wpAny_bind ((W.looks_findIn X ha).at (wpAny_bind (L3.at ?_))))))
  show wpAny _ _ (storeInOwnDict (.ref x) (.ref C) (.str name tk) name v false) _ _ _
  obtain ⟨nm, bs, mro, ns, qn, hd, sn, sb, ab, col, del⟩ := cd
  dsimp only at hh
  subst hh
  unfold storeInOwnDict ownDictForStores
  repeat (first | with_reducible refine store_in_new ?_ ?_ | with_reducible refine wpAny_loadPart_at hx ?_ | with_reducible refine hcls.at ?_ | wp_step)
  · exact ⟨_, #[], _, (Heap.get?_update_ne _ _ _ _ hxs.symm).trans (Heap.get?_push_at rfl rfl), rfl, fun e he => absurd he (by simp), fun _ => rfl⟩
  · intro h' tk' hn' hs
    have hx₁ : (hp.push { cls := .type "dict", data := .dict #[] }).get? x = some { cls := .ref C, data := .fields fv } := Heap.get?_push_of_some _ hx
    refine hq h' tk' hp.objs.size (fun b o hb ho => ?_) (Nat.le_refl _) hxs.symm ?_ hn'
    · exact (hs.2 b (Nat.ne_of_lt (Heap.lt_size ho))).trans ((Heap.get?_update_ne _ _ _ _ hb).trans (Heap.get?_push_of_some _ ho))
    · exact (hs.2 x hxs).trans (Heap.get?_update_self _ hx₁ rfl)
end
end OXX
end PySem
namespace PySem.W
open PySem PySem.Spec PySem.Calls PyProof.Rows
section
variable {prog : Program} {w : World} {A : Around} {E : Value → Shared → Prop} {s : Shared} {K : Frag} {x D : Addr} {ox : Obj} {od : Option Obj}
theorem findObj_dataD {C : Addr} {name : Str} {a g : Value} (hc : (clsIn K C).isSome = true) (ha : findIn K (.ref C) name = some (some a)) (hg : specialIn K a "__get__" = some (some g)) (ht : takesIn K a = some true) : findObj K C od name = some (.bind g a) := by
  obtain ⟨cd, hc⟩ := Option.isSome_iff_exists.mp hc
  unfold findObj
  rw [hc, Option.bind_some, ha, Option.bind_some]
  simp [hg, ht]
theorem kin_classD {Q : Option Value → Shared → Prop} (hga : findIn K (.ref D) "__getattribute__" = some (some (.builtin "BaseException.__getattribute__"))) (hgt : findIn K (.ref D) "__getattr__" = some none) (hsub : subIn K (.ref D) (.type "BaseException") = some true)
    (hdct : hasDictIn K D = true) (ha : findIn K (.ref D) "__class__" = some (some (.builtin "object.__class__")))
    (hn : specialIn K (.builtin "object.__class__") "__get__" = some (some (.builtin "getset_descriptor.__get__"))) (htk : takesIn K (.builtin "object.__class__") = some true) (hm : mroIn K D (.type "object") = some true)
    (X : K.In s.heap) (I : InstAt s.heap x ox D od) (h : Q (some (.ref D)) { s with toks := s.toks + 1 }) : wpAny (model prog w) A (getAttr? (.ref x) "__class__") Q E s := by
  have hf : findObj K D od "__class__" = some (.bind (.builtin "getset_descriptor.__get__") (.builtin "object.__class__")) := findObj_dataD (by obtain ⟨cd, hc, _⟩ := any_some hdct; rw [hc]; rfl) ha hn htk
  obtain ⟨hp, g, d, t, os⟩ := s
  have L0 := I.type (M := model prog w)
  have L1 := looks_findIn (M := model prog w) X hga
  have L2 := looks_findIn (M := model prog w) X hgt
  have L3 := looks_find (M := model prog w) X I hf
  have sub : Looks (model prog w) hp (isInstance (.ref x) (.type "BaseException")) true := L0.andThen (looks_subIn X hsub)
  have hx0 : (false && onTheHeap (Value.builtin "BaseException.__getattribute__")) = false := rfl
  have hx2 : (Value.builtin "BaseException.__getattribute__" == Value.builtin "object.__getattribute__") = false := by decide +kernel
  have hx1 : (onTheHeap (Value.ref D) && Value.builtin "BaseException.__getattribute__" == Value.builtin "object.__getattribute__") = false := by rw [hx2]; rfl
  unfold getAttr? getAttrBy? getAttrBy
  refine wpAny_bind (wpAny_mkText (wpAny_bind (wpAny_attempt (wpAny_holding (wpAny_bind (L0.at (wpAny_bind (L1.at ?_))))))))
  show wpAny _ _ (if (onTheHeap (Value.ref D) && Value.builtin "BaseException.__getattribute__" == Value.builtin "object.__getattribute__") = true then _ else _) _ _ _
  rw [hx1, if_neg Bool.false_ne_true]
  unfold getAttrByItsOwn hookBefore
  refine wpAny_bind ?_
  rw [if_pos (show onTheHeap (Value.ref D) = true from rfl)]
  refine L2.at ?_
  refine wpAny_bind (wpAny_attempt (wpAny_holding ?_))
  unfold callGetattribute
  rw [hx0, if_neg Bool.false_ne_true]
  unfold boundAndCalled
  rw [PySem.F.excAttr_ValueError.ga.bind (.ref x)]
  refine wpAny_bind (wpAny_pure ?_)
  show wpAny _ _ (call (.builtin "BaseException.__getattribute__") [.ref x, .str "__class__" t]) _ _ _
  refine wpAny_call (codeAny_call_builtin PySem.F.excAttr_ValueError.ga.plain PySem.F.entry_bexc_ga ?_)
  refine @check_slot (model prog w) _ _ ⟨hp, g, d, t + 1, os⟩ "BaseException.__getattribute__" "BaseException" "__getattribute__" (.ref x) [.str "__class__" t] [] _ (by decide +kernel) (by decide +kernel) sub (PySem.F.args_bexc_ga (.ref x) (.str "__class__" t)) ?_
  unfold Builtin.«object.__getattribute__»
  refine wpAny_bind (wpAny_of_eq (a := ((Value.ref x : Value), [Value.str "__class__" t])) (by first | rfl | (simp only [slotArgs]; rfl)) ?_)
  refine wpAny_bind (wpAny_pure (wpAny_bind (L0.at (wpAny_bind (L3.at ?_)))))
  show wpAny _ _ (holding [Value.builtin "object.__class__"] (call (.builtin "getset_descriptor.__get__") [.builtin "object.__class__", .ref x, .ref D]) >>= ret) _ _ _
  refine wpAny_bind (wpAny_holding (wpAny_call (class_get (s := ⟨hp, g, d, t + 1, os⟩) (ox := ox) (od := od) X I hm ?_)))
  refine wpAny_pure ?_
  show wpAny _ _ (handedOut (.ref D)) _ _ _
  rw [handedOut_of (v := .ref D) rfl]
  first
    | exact wpAny_pure (wpAny_pure h)
    | exact wpAny_pure h
    | exact wpAny_pure (wpAny_bind (wpAny_pure (wpAny_pure h)))
theorem kitx_excD (hga : findIn K (.ref D) "__getattribute__" = some (some (.builtin "BaseException.__getattribute__"))) (hgt : findIn K (.ref D) "__getattr__" = some none) (hsub : subIn K (.ref D) (.type "BaseException") = some true) (hdct : hasDictIn K D = true) (ha : findIn K (.ref D) "__class__" = some (some (.builtin "object.__class__")))
    (hn : specialIn K (.builtin "object.__class__") "__get__" = some (some (.builtin "getset_descriptor.__get__"))) (htk : takesIn K (.builtin "object.__class__") = some true) (hm : mroIn K D (.type "object") = some true) :
    KitX K (.ref x) (.ref D) (fun h => InstAt h x ox D od) where
  ty := fun _ _ _ I => I.type
  it := fun _ _ X _ => by
    obtain ⟨cdD, hcD, _⟩ := any_some hdct
    unfold clsIn at hcD
    split at hcD
    · rename_i c' d' cd' sl' ho
      intro A' Q' E' s' k q
      unfold isType loadHead
      exact wpAny_bind (wpAny_loadPart (k _ _ (X _ _ ho)) (wpAny_pure q))
    · cases hcD
  ne := fun h tp dd its n sl X htp => by
    obtain ⟨cdD, hcD, _⟩ := any_some hdct
    refine Bool.eq_false_iff.mpr fun q => ?_
    have e : D = tp := Value.ref.inj (beq_iff_eq.mp q)
    subst e
    unfold clsIn at hcD
    split at hcD
    · rename_i c' d' cd' sl' ho
      have z := (X _ _ ho).symm.trans htp
      cases z
    · cases hcD
  ca := fun X I k => kin_classD hga hgt hsub hdct ha hn htk hm X I k
end
end PySem.W
namespace L2
open PySem PySem.Spec PyProof.Rows
/-- an own exception class, over whatever base -/
structure OxC (K : PySem.W.Frag) (C : Addr) : Prop where
  cls : ∃ nm q N bs bm sn sub ab col dd k0 k1 k2 k3 k5 B newId initId bmB, K.lookup C = some (excClassObj nm q C N bs bm true sn sub ab col dd k0 k1 k2 k3 k5 newId) ∧ ExcBaseFacts B newId initId bmB ∧ PySem.OXX.Beh B bm ∧ ∀ self, refuseLoop self "__setattr__" (.ref C :: bm) = pure ()
  sa : PySem.W.findIn K (.ref C) "__setattr__" = some (some (.builtin "object.__setattr__"))
  kC : PySem.W.keepIn K (.ref C) = true
  xf : XfC K C
  is : ExcC K C
  ty : PySem.W.typeIn K (.ref C) = some (.type "type")
  ex : PySem.W.exmOne K (.ref C) (.ref C) = some true
section
variable {X : Cx} {pins : List (Addr × Obj)} {σ : St} {H : Hp} {s : Shared} {a C dx : Addr} {f : Str} {y : V} {u : Value} {fs : List (Str × V)} {Q : Unit → Shared → Prop} {E : Value → Shared → Prop} {A : Around}
/-- self.f = y, the first one -/
theorem oxt_new (T : OxC X.K C) (I : Inv X pins σ H s) (e : H a = some (exo a C none)) (hno : PySem.W.findIn X.K (.ref C) f = some none) (ry : RelV y u)
    (h : ∀ dx s', H dx = none → dx ≠ a → Inv X pins σ (upd (upd H dx (exd dx [(f, y)])) a (exo a C (some dx))) s' → Q () s') : wpAny (model X.prog X.w) A (setAttr (.ref a) f u) Q E s := by
  obtain ⟨nm, q, N, bs, bm, sn, sub, ab, col, dd, k0, k1, k2, k3, k5, B, newId, initId, bmB, hC, FB, BB, hps⟩ := T.cls
  have hcl : PySem.W.clsIn X.K C = some { name := nm, bases := bs, mro := .ref C :: bm, ns := N, qualname := q, hasDict := true, slotNames := sn, subclasses := sub, abstract := ab, collection := col, hasDel := false } := by unfold PySem.W.clsIn; rw [hC] <;> rfl
  obtain ⟨t1, ho⟩ := exo_at I.hok e
  obtain ⟨hp, g, d, t, os⟩ := s
  refine PySem.W.set_plain I.kIn (ox := { cls := .ref C, dict := none, data := .fields #[.ref t1, .none, .none, .none, .bool false, .none] }) (od := none) ⟨ho, rfl, rfl, trivial⟩ T.sa ?_
  refine PySem.OXX.osa_x I.kIn ho hcl rfl (show (Value.ref C :: bm).contains (.type "object") = true by rw [List.contains_cons, BB.ob, Bool.or_true]) (hps _) rfl hno (fun h' tk' dx k dn dne hx hn => ?_)
  have hnd : H dx = none := I.hok.fresh dn
  have nd : ∀ {b : Addr} {o : Obj}, hp.get? b = some o → b ≠ dx := fun {b o} q => Nat.ne_of_lt (Nat.lt_of_lt_of_le (Heap.lt_size q) dn)
  have na : ∀ {b : Addr}, H b = none → b ≠ a := fun {b} n z => by
    rw [z, e] at n
    cases n
  have Un1 : Un X.fs [] H (upd (upd H dx (exd dx [(f, y)])) a (exo a C (some dx))) hp h' := {
    keep := fun b o q n _ _ => k b o (na n) q
    slot := fun b o q n _ _ => ⟨o.slots, k b o (na n) q⟩
    free := fun b o q n _ => by rw [upd_ne (na n), upd_ne (nd q)]; exact n
    there := fun b o q _ => by
      by_cases hb : b = a
      · exact ⟨_, by rw [hb]; exact hx⟩
      · exact ⟨o, k b o hb q⟩
    tups := fun b xs q => by rw [upd_ne (at_ne e q exo_tup), upd_ne (ne_of_none q hnd)]; exact q
    frzs := fun b o v q => by rw [upd_ne (at_ne e q exo_frz), upd_ne (ne_of_none q hnd)]; exact q
    tbls := fun b ps q => ⟨#[], by rw [upd_ne (at_ne e q exo_tbl), upd_ne (ne_of_none q hnd), q]; simp⟩ }
  refine h dx _ hnd dne (I.un (t' := tk') Un1 fun b o q => ?_)
  by_cases hb : b = a
  · subst hb
    rw [upd_same] at q
    cases q
    exact exo_ok hx
  · rw [upd_ne hb] at q
    by_cases hd : b = dx
    · subst hd
      rw [upd_same] at q
      cases q
      exact exd_ok hn (relO_put (fs := []) ry fun g => True.intro)
    · rw [upd_ne hd] at q
      exact (I.hok b o q).stay (fun c v hc z => k c v (by
          rcases hc with hc | hc
          · rw [hc]
            exact hb
          · exact at_ne e hc exo_own) z)
        (fun c hc => by rw [upd_ne (at_ne e hc exo_own), upd_ne (ne_of_none hc hnd)]; exact hc) (fun c xs hc => by rw [upd_ne (at_ne e hc exo_tup), upd_ne (ne_of_none hc hnd)]; exact hc)
end
/-- self.f = e, the first one -/
def tOxt (K : PySem.W.Frag) (f : Str) (to te : TE) : TS := fun D σ H => te σ H fun y H1 => to σ H1 fun x H2 => ∃ a C : Addr, x = .ref a ∧ OxC K C ∧ PySem.W.findIn K (.ref C) f = some none ∧
  (H2 a = some (exo a C none) ∧ ∀ dx, H2 dx = none → dx ≠ a → D.nx σ (upd (upd H2 dx (exd dx [(f, y)])) a (exo a C (some dx))))
/-- the promise of such an __init__: one field -/
def SpXI (K : PySem.W.Frag) (f : Str) : Sp := fun vs H Q _ => ∃ a v C, vs = [.ref a, v] ∧ OxC K C ∧ PySem.W.findIn K (.ref C) f = some none ∧ H a = some (exo a C none) ∧
  ∀ dx, H dx = none → dx ≠ a → Q .non (upd (upd H dx (exd dx [(f, v)])) a (exo a C (some dx)))
/-- C(e), C with such an __init__ -/
def tMkX (C : Addr) (f : Str) (te : TE) : TE := fun σ H Q => te σ H fun v H1 => ∀ a dx, H1 a = none → H1 dx = none → dx ≠ a → Q (.ref a) (upd (upd (upd H1 a (exo a C none)) dx (exd dx [(f, v)])) a (exo a C (some dx)))
/-- C() -/
def tMkN (C : Addr) : TE := fun _ H Q => ∀ a, H a = none → Q (.ref a) (upd H a (exo a C none))
section
variable {X : Cx} {o e : Expr} {es : List Expr} {to te : TE} {f x n : Str} {p p' pos : Pos} {C fI : Addr} {k : Nat} {fd : FuncData} {ps : List Str} {CX : CXT}
theorem ps_oxt (ho : PE X o to) (he : PE X e te) (hs : swapsWith e (some (.Attribute o f p')) pos.line X.env = pure false := by rfl) : PS X (.Assign [.Attribute o f p'] e pos) (tOxt X.K f to te) := by
  refine ⟨fun pins s σ H D I h => ?_⟩
  refine plainObj_wpAny_Assign_Attribute (thn (he.run pins s σ H _ I h) fun v s1 ⟨y, H1, I1, r1, q1⟩ => thn (ho.run pins s1 σ H1 _ I1 q1) fun u s2 ⟨x, H2, I2, r2, a, C, ex, T, hno, ea, q⟩ => ?_) hs
  subst ex
  obtain rfl : u = Value.ref a := r2
  exact oxt_new T I2 ea hno r1 fun dx s' n ne J => ⟨σ, _, J, q dx n ne⟩
theorem pe_mkN {bmB : List Value} {B newId initId : String} (F : ExcBaseFacts B newId initId bmB) (q : PySem.W.excIn X.K C bmB newId = true) (gC : X.mg x = some (.ref C)) (kC : PySem.W.keepIn X.K (.ref C) = true) (hg : Gl X x)
    (hdb : (x == ("__debug__" : Str)) = false := by decide) : PE X (.Call (.Name x p) [] [] pos) (tMkN C) := by
  refine ⟨fun pins s σ H Q I h => ?_⟩
  refine wpAny_Call_Name_kw (ld_glob I hg gC ?_ hdb)
  refine PySem.W.callWith_K0 (K := X.K) (I.tok _).kIn kC ?_
  show wpAny _ _ (call (.ref C) []) _ _ _
  obtain ⟨bm, N, nm, qn, bs, hdct, sn, sub, ab, col, dd, k0, k1, k2, k3, k5, mN, hC, hN, hni, T⟩ := exc_obj (I.tok _).kIn q
  refine wpAny_call_exc_subT F T hC hN hni (fun h' a hm => ?_) (by show 0 ≤ sizeLine; omega)
  have hn : H a = none := I.hok.gone hm.new
  obtain ⟨t, ht, _, _⟩ := hm.there
  exact ⟨.ref a, upd H a (exo a C none), I.laidN hm.keeps hm.new hn (exo_ok ht), rfl, h a hn⟩
theorem pe_mkX (T : OxC X.K C) (iC : PySem.W.findIn X.K (.ref C) "__init__" = some (some (.ref fI))) (tI : PySem.W.typeIn X.K (.ref fI) = some (.type "function")) (hno : PySem.W.findIn X.K (.ref C) f = some none)
    (F1 : FnOk X.prog X.w X.K X.mg X.base CX k fI fd ps (SpXI X.K f)) (hr : Room (k + 1) X.A) (hb : Binds X.K fd ps []) (hx : Passes CX X (fun _ _ _ => False)) (hg : Gl X x) (hm : X.mg x = some (.ref C)) (ha : PE X e te)
    (hdb : (x == ("__debug__" : Str)) = false := by decide) (he : starEach (e :: []) X.env = (false, eval e X.env) :: starEach [] X.env := by rfl) (hpl : (backTo pos (starEach [] X.env)).any (·.1) = false := by rfl) :
    PE X (.Call (.Name x p) [e] [] pos) (tMkX C f te) := by
  refine ⟨fun pins s σ H Q I h => ?_⟩
  obtain ⟨nm, q, N, bs, bm, sn, sub, ab, col, dd, k0, k1, k2, k3, k5, B, newId, initId, bmB, hC, FB, BB, hps⟩ := T.cls
  refine wpAny_Call_Name_kw (ld_glob I hg hm ?_ hdb)
  have hA : PA X [e] (tCons te tNil) := pa_cons ha pa_nil he
  refine PySem.W.callWith_K (h₀ := X.base) I.ok.mod.kin T.kC (thn (hA.run pos pins s σ H (fun vs H1 => match vs with | [v] => (∀ a dx, H1 a = none → H1 dx = none → dx ≠ a → Q (.ref a) (upd (upd (upd H1 a (exo a C none)) dx (exd dx [(f, v)])) a (exo a C (some dx)))) | _ => False) I h) fun us s1 ⟨vs, H1, I1, r1, q1⟩ => ⟨I1.kIn, ?_⟩) he hpl
  show wpAny _ _ (call (.ref C) us) _ _ _
  obtain ⟨v, rfl⟩ : ∃ v, vs = [v] := by
    rcases vs with _ | ⟨v, _ | ⟨v2, vs⟩⟩
    · exact q1.elim
    · exact ⟨v, rfl⟩
    · exact q1.elim
  replace q1 : ∀ a dx, H1 a = none → H1 dx = none → dx ≠ a → Q (.ref a) (upd (upd (upd H1 a (exo a C none)) dx (exd dx [(f, v)])) a (exo a C (some dx))) := q1
  obtain ⟨hp, g, dr, tk, os⟩ := s1
  have hsz : hp.objs.size ≤ hp.objs.size + 1 := Nat.le_succ _
  have hn : H1 (hp.objs.size + 1) = none := I1.hok.fresh hsz
  have hq : SpXI X.K f [.ref (hp.objs.size + 1), v] (upd H1 (hp.objs.size + 1) (exo (hp.objs.size + 1) C none)) (fun r H2 => r = .non ∧ Q (.ref (hp.objs.size + 1)) H2) (fun _ _ _ => False) :=
    ⟨_, v, C, rfl, T, hno, upd_same, fun dx hd hda => ⟨rfl, q1 _ dx hn (by rw [upd_ne hda] at hd; exact hd) hda⟩⟩
  have kk : ∀ b o, hp.get? b = some o → ((hp.push (PySem.W.kdv_tup us)).push (PySem.HandSPX.excO C hp.objs.size)).get? b = some o := fun b o e => Heap.get?_push_of_some _ (Heap.get?_push_of_some _ e)
  have hget : ((hp.push (PySem.W.kdv_tup us)).push (PySem.HandSPX.excO C hp.objs.size)).get? (hp.objs.size + 1) = some (PySem.HandSPX.excO C hp.objs.size) := by heap_get
  have I2 : Inv X pins σ (upd H1 (hp.objs.size + 1) (exo (hp.objs.size + 1) C none)) ⟨(hp.push (PySem.W.kdv_tup us)).push (PySem.HandSPX.excO C hp.objs.size), g, dr, tk, os⟩ :=
    I1.laid (t' := tk) (a := hp.objs.size + 1) (o := exo (hp.objs.size + 1) C none) (h' := (hp.push (PySem.W.kdv_tup us)).push (PySem.HandSPX.excO C hp.objs.size)) kk hsz (exo_ok hget)
  have r2 : Vals (V.ref (hp.objs.size + 1) :: ([v] ++ [])) (Value.ref (hp.objs.size + 1) :: (us ++ [])) := .cons rfl (r1.append .nil)
  have hl : (Value.ref (hp.objs.size + 1) :: us ++ []).length = ps.length := by
    have e := r2.length
    have e3 := F1.len _ _ _ _ hq
    simp only [List.length_cons, List.length_append, List.length_nil] at e e3 ⊢
    omega
  have hus : us.length ≤ sizeLine := by
    rw [← Paired.length r1, sizeLine_eq]
    simp
  refine wpAny_call (PySem.OXX.call_x FB BB (I1.kIn _ _ hC) (PySem.W.looks_findIn I1.kIn iC) (fun self => PySem.W.bind_fn I1.kIn self tI) hus
    (codeAny_mono (F1.run _ X.stack _ _ ⟨Value.ref (hp.objs.size + 1) :: us, []⟩ (Value.ref (hp.objs.size + 1) :: us ++ []) _ _ (fun _ _ _ => False) (hr.make C us []) (I2.env0.make C us []) (hb _ (Value.ref (hp.objs.size + 1) :: us) I2.kIn hl) r2 hq) fun r s' hq' => ?_))
  cases r with
  | error er => exact hx pins σ _ _ er s' I2 hq'
  | ok fl =>
    cases fl with
    | ret u =>
      obtain ⟨w, H2, os2, bare2, un2, hok2, rv, ev, q2⟩ := hq'
      subst ev
      exact ⟨rv, .ref (hp.objs.size + 1), H2, I2.call' (ch := []) os2 un2 hok2 bare2 (fun b z => absurd z (by simp)), rfl, q2⟩
    | next => exact False.elim hq'
    | brk => exact False.elim hq'
    | cont => exact False.elim hq'
/-- err.f -/
def tXfl (K : PySem.W.Frag) (n : Str) (te : TE) : TE := fun σ H Q => te σ H fun x H1 => ∃ (a C d : Addr) (fs : List (Str × V)) (v : V), x = .ref a ∧ XfC K C ∧ PySem.W.findIn K (.ref C) n = some none ∧ H1 a = some (exo a C (some d)) ∧ H1 d = some (exd d fs) ∧ fs.lookup n = some v ∧ Q v H1
theorem pe_xfl (he : PE X e te) (hb : attributeBase e n X.env (eval e X.env) = eval e X.env := by rfl) : PE X (.Attribute e n pos) (tXfl X.K n te) := by
  refine ⟨fun pins s σ H Q I h => ?_⟩
  refine attr_of hb (thn (he.run pins s σ H _ I h) fun u s1 hh => ?_)
  obtain ⟨x, H1, I1, rx, a, C, d, fs, v, ex, T, hno, ea, ed, l, q⟩ := hh
  subst ex
  obtain rfl : u = Value.ref a := rx
  obtain ⟨t1, ho⟩ := exo_at I1.hok ea
  obtain ⟨mA, hns, hr⟩ := exd_at I1.hok ed
  obtain ⟨od, ho2, hl⟩ := lookIn_ns hns
  obtain ⟨u, hu, ru⟩ := RelO.some_of (v := v) (o := mA n) (by rw [← l]; exact hr n)
  have J : PySem.W.InstAt s1.heap a { cls := .ref C, dict := some d, data := .fields #[.ref t1, .none, .none, .none, .bool false, .none] } C (some od) := ⟨ho, rfl, rfl, ho2⟩
  exact HandSPX.exc_get I1.kIn J T.ga T.gg T.exC (PySem.W.findObj_own T.hdC hno rfl (by rw [hl, hu])) (handed_of ru) ⟨v, H1, I1.tok _, ru, q⟩
/-- isinstance(err, c) -/
def rIsX (K : PySem.W.Frag) : List V → Hp → VK → Prop := fun xs H Q => ∃ (a C : Addr) (d : Option Addr) (c : V) (u : Value) (b : Bool), xs = [.ref a, c] ∧ H a = some (exo a C d) ∧ (∀ dx, d = some dx → ∃ fs, H dx = some (exd dx fs)) ∧ ExcC K C ∧ ClsV c u ∧ PySem.W.kitOne K (.ref C) u = some b ∧ Q (.bl b) H
theorem call_isX : CallR X (.builtin "isinstance") (rIsX X.K) := by
  intro pins s σ H xs us Q I r h
  obtain ⟨a, C, d, c, cv, b, rfl, ea, hd, T, k, e, q⟩ := h
  obtain ⟨u1, u2, rfl, r1, r2⟩ := vals2 r
  have e2 := k.eq r2
  subst e2
  cases (show u1 = Value.ref a from r1)
  obtain ⟨t1, ho⟩ := exo_at I.hok ea
  have hod : ∃ od : Option Obj, PySem.W.InstAt s.heap a { cls := .ref C, dict := d, data := .fields #[.ref t1, .none, .none, .none, .bool false, .none] } C od := by
    cases d with
    | none => exact ⟨none, ho, rfl, rfl, trivial⟩
    | some dx =>
      obtain ⟨fs, ed⟩ := hd dx rfl
      obtain ⟨mA, hns, hr⟩ := exd_at I.hok ed
      obtain ⟨od, ho2, hl⟩ := lookIn_ns hns
      exact ⟨some od, ho, rfl, rfl, ho2⟩
  obtain ⟨od, J⟩ := hod
  exact PySem.W.kia_one (PySem.W.kitx_excD T.hg T.hk T.hs T.hd T.ha T.hn T.ht T.hm) I.kIn J e (fun z => nomatch z) fun tk => ⟨.bl b, H, I.tok tk, rfl, q⟩
end
end L2

namespace Un
open PySem PySem.Spec PyProof.Rows L2

/-! ### defs as they stand, and as they keep a promise -/
def At (K : PySem.W.Frag) (mg : Str → Option Value) (nm : Str) (st : Stmt) (ps : List Str) : Prop :=
  ∃ (f : Addr) (fd : FuncData), Fun K nm nm st f fd ∧ mg nm = some (.ref f) ∧ Binds K fd ps []
def Cl (P : Program) (w : World) (K : PySem.W.Frag) (mg : Str → Option Value) (base : Heap) (nm : Str) (ps : List Str) (k : Nat) (sp : Sp) : Prop :=
  ∃ (f : Addr) (fd : FuncData), mg nm = some (.ref f) ∧ FnOk P w K mg base CX0 k f fd ps sp ∧ PySem.W.keepIn K (.ref f) = true ∧ Binds K fd ps []
theorem cl_of {P : Program} {w : World} {K : PySem.W.Frag} {mg : Str → Option Value} {base : Heap} {nm : Str} {st : Stmt} {ps : List Str} {k : Nat} {sp : Sp}
    (a : At K mg nm st ps) (h : ∀ f fd, Fun K nm nm st f fd → FnOk P w K mg base CX0 k f fd ps sp) : Cl P w K mg base nm ps k sp := by
  obtain ⟨f, fd, F, m, b⟩ := a
  exact ⟨f, fd, m, h f fd F, F.kp, b⟩
section
variable {X : Cx} {nm : Str} {ps : List Str} {j k : Nat} {sp : Sp} {e : Expr} {es : List Expr} {t : TA} {p pos : Pos}
theorem pe_cl (c : Cl X.prog X.w X.K X.mg X.base nm ps k sp) (hr : Room k X.A) (hg : Gl X nm) (ha : PA X (e :: es) t)
    (hdb : (nm == ("__debug__" : Str)) = false := by decide) (he : starEach (e :: es) X.env = (false, eval e X.env) :: starEach es X.env := by rfl) (hpl : (backTo pos (starEach es X.env)).any (·.1) = false := by rfl) :
    PE X (.Call (.Name nm p) (e :: es) [] pos) (tCall sp [] E0 t) := by
  obtain ⟨f, fd, m, F, kp, b⟩ := c
  exact pe_call F hr hg m kp b .nil pass0 ha hdb he hpl
theorem pe_cl0 (c : Cl X.prog X.w X.K X.mg X.base nm ps k sp) (hr : Room k X.A) (hg : Gl X nm)
    (hdb : (nm == ("__debug__" : Str)) = false := by decide) : PE X (.Call (.Name nm p) [] [] pos) (tCall sp [] E0 tNil) := by
  obtain ⟨f, fd, m, F, kp, b⟩ := c
  exact pe_call0 F hr hg m kp b .nil pass0 hdb
end

/-! ### texts as lists of sgs -/
def tx (l : List Nat) : Str := ⟨l.toArray⟩
theorem tx_cps (l : List Nat) : (tx l).cps.toList = l := by simp [tx]
theorem tx_len (l : List Nat) : (tx l).length = l.length := by simp [tx, Str.length]
theorem tx_inj {a b : List Nat} (h : tx a = tx b) : a = b := by
  have := congrArg (fun s : Str => s.cps.toList) h
  simpa [tx] using this
theorem tx_eq {a b : List Nat} : tx a = tx b ↔ a = b := ⟨tx_inj, fun h => by rw [h]⟩
theorem tx_of (s : Str) : tx s.cps.toList = s := by
  cases s with
  | mk c => simp [tx]
theorem tx_app (a b : List Nat) : tx a ++ tx b = tx (a ++ b) := by
  have e : (tx a ++ tx b) = (⟨(tx a).cps ++ (tx b).cps⟩ : Str) := rfl
  rw [e]
  simp [tx]
theorem tx_one (c : Nat) : (⟨#[c]⟩ : Str) = tx [c] := rfl

/-! ### rules for built-ins -/
def scalR : V → Prop
  | .non => True
  | .bl _ => True
  | .int i => i.natAbs.log2 < 1920
  | .str x => (reprText x).length ≤ sizeLine
  | _ => False
def reprS : V → Str
  | .non => "None"
  | .bl b => if b then "True" else "False"
  | .int i => toString i
  | .str x => reprText x
  | _ => ""
def rRepr : List V → Hp → VK → Prop := fun xs H Q => ∃ x, xs = [x] ∧ scalR x ∧ Q (.str (reprS x)) H
section
variable {X : Cx}
theorem call_reprS : CallR X (.builtin "repr") rRepr := by
  intro pins s σ H xs us Q I r h
  obtain ⟨x, rfl, hx, q⟩ := h
  obtain ⟨u, rfl, rx⟩ := vals1 r
  cases x with
  | non => cases rx; exact PySem.P.repr_of_none ⟨.str _, H, I.tok _, ⟨_, rfl⟩, q⟩
  | bl b => cases rx; exact PySem.P.repr_of_bool ⟨.str _, H, I.tok _, ⟨_, rfl⟩, q⟩
  | int i => obtain ⟨t, rfl⟩ := rx; exact PySem.P.repr_of_int hx ⟨.str _, H, I.tok _, ⟨_, rfl⟩, q⟩
  | str y => obtain ⟨t, rfl⟩ := rx; exact PySem.P.repr_of_str ⟨.str _, H, I.tok _, ⟨_, rfl⟩, q⟩ (hsz := hx)
  | _ => exact hx.elim
def sgs (l : List Nat) : List V := l.map fun c => V.str (tx [c])
theorem vals_of_get : ∀ {xs : List V} {us : List Value}, xs.length = us.length → (∀ (i : Nat) (x : V) (u : Value), xs[i]? = some x → us[i]? = some u → RelV x u) → Vals xs us
  | [], [], _, _ => .nil
  | [], _ :: _, h, _ => by simp at h
  | _ :: _, [], h, _ => by simp at h
  | x :: xs, u :: us, h, f => .cons (f 0 x u rfl rfl) (vals_of_get (by simpa using h) fun i a b ha hb => f (i + 1) a b (by simpa using ha) (by simpa using hb))
theorem call_list_strR (hc : X.calm = true) : CallR X (.type "list") (fun xs H Q => ∃ l : List Nat, xs = [.str (tx l)] ∧ l.length ≤ sizeLine ∧ ∀ p, H p = none → Q (.ref p) (upd H p (.lst (sgs l)))) := by
  intro pins s σ H xs us Q I r h
  obtain ⟨l, rfl, hl, q⟩ := h
  obtain ⟨u, rfl, t, rfl⟩ := vals1 r
  have hs : (tx l).cps.size = l.length := by simp [tx]
  refine PySem.call_list_str (I.ok.hd hc) (tx l) t (fun h' tk acc' c' hk hS hacc => ?_) (hn := by rw [hs]; exact hl)
  obtain ⟨hsz, hget⟩ := hacc
  have hv : Vals (sgs l) acc'.toList := vals_of_get (show (sgs l).length = acc'.toList.length by rw [Array.length_toList (xs := acc'), hsz, hs]; simp [sgs]) fun i x u hx hu => by
    have hu' : acc'[i]? = some u := by rw [← Array.getElem?_toList]; exact hu
    obtain ⟨c, tk', hc', rfl⟩ := hget i u hu'
    have hc2 : l[i]? = some c := by
      have : (tx l).cps[i]? = l[i]? := by simp [tx]
      rw [← this]; exact hc'
    have : x = V.str (tx [c]) := by
      unfold sgs at hx
      rw [List.getElem?_map, hc2] at hx
      exact (Option.some.inj hx).symm
    subst this
    exact ⟨tk', rfl⟩
  exact ⟨.ref s.heap.objs.size, _, I.laid (t' := tk) hk (Nat.le_refl _) (show ObjOk X.prog X.w _ h' _ (.lst (sgs l)) from ⟨by simpa [sgs] using hl, acc'.toList, c', hv, by simpa using hS⟩), rfl, q _ (I.hok.fresh (Nat.le_refl _))⟩
def reps (n : Nat) (l : List Nat) : List Nat := (List.replicate n l).flatten
theorem reps_len (n : Nat) (l : List Nat) : (reps n l).length = n * l.length := by
  unfold reps
  induction n with
  | zero => simp
  | succ n ih =>
    rw [List.replicate_succ, List.flatten_cons, List.length_append, ih, Nat.add_mul, Nat.one_mul, Nat.add_comm]
theorem foldl_app (l : List Nat) : ∀ (n : Nat) (a : Array Nat), ((List.replicate n l.toArray).foldl (· ++ ·) a).toList = a.toList ++ (List.replicate n l).flatten
  | 0, a => by simp
  | n + 1, a => by
    rw [List.replicate_succ, List.foldl_cons, foldl_app l n, List.replicate_succ, List.flatten_cons]
    simp
theorem txt_mul (l : List Nat) (n : Int) : Txt.mul (tx l) n = tx (reps n.toNat l) := by
  unfold Txt.mul
  by_cases h : n < 1
  · rw [if_pos h]
    have : n.toNat = 0 := by omega
    rw [this]
    rfl
  · rw [if_neg h]
    by_cases h1 : (n == 1 || (tx l).length == 0) = true
    · rw [if_pos h1]
      rw [Bool.or_eq_true] at h1
      rcases h1 with h1 | h1
      · have : n = 1 := by simpa using h1
        subst this
        simp [reps]
      · have : l = [] := by simpa [tx, Str.length] using h1
        subst this
        simp [reps]
    · rw [if_neg h1]
      have e := foldl_app l n.toNat #[]
      have e2 : (List.replicate n.toNat (tx l).cps) = List.replicate n.toNat l.toArray := rfl
      rw [e2]
      generalize hg : List.foldl (fun x1 x2 => x1 ++ x2) #[] (List.replicate n.toNat l.toArray) = z at *
      unfold tx reps
      congr 1
      apply Array.ext'
      rw [e]
      simp
theorem op_mul_str : OpR X (binaryOp .Mult) (fun x y H Q => ∃ (l : List Nat) (n : Int), x = .str (tx l) ∧ y = .int n ∧ -100000 ≤ n ∧ n ≤ 100000 ∧ l.length * n.toNat ≤ 100000 ∧ Q (.str (tx (reps n.toNat l))) H) := by
  intro pins s σ H x y v u Q I rx ry h
  obtain ⟨l, n, rfl, rfl, hn0, hn, hl, q⟩ := h
  obtain ⟨t, rfl⟩ := rx
  obtain ⟨t', rfl⟩ := ry
  have hk : (tx l).length = l.length := tx_len l
  refine SB.mul (n := n) ⟨?_, fun h1 _ => ?_, fun h1 _ => ?_⟩ (fun t2 k => ⟨.str (tx (reps n.toNat l)), H, I.tok _, ⟨t2, by rw [txt_mul]⟩, q⟩)
  · simp only [Bool.or_eq_false_iff, decide_eq_false_iff_not]
    constructor <;> omega
  · rw [hk]
    have h2 : (l.length : Int) ≤ 100000 := by
      have : l.length * 1 ≤ l.length * n.toNat := Nat.mul_le_mul_left _ (by omega)
      omega
    have h3 : (100000 : Int) ≤ (2 ^ 63 - 1) / n := by
      refine (Int.le_ediv_iff_mul_le (by omega)).mpr ?_
      omega
    omega
  · rw [hk]
    unfold Builtin.Str.tooLong
    have : (100000 : Nat) ≤ sizeLine := by decide
    simp only [decide_eq_false_iff_not]
    omega

/-! ### rules for texts as lists of sgs -/
theorem pe_strX {x : Str} {j : Nat} {pos : Pos} (l : List Nat) (h : x = tx l) : PE X (.Constant (.str x) j pos) (tC (.str (tx l))) := by
  subst h
  exact pe_str
def rAddX : R2 := fun x y H Q => ∃ a b, x = .str (tx a) ∧ y = .str (tx b) ∧ a.length + b.length ≤ sizeLine ∧ Q (.str (tx (a ++ b))) H
theorem op_addX : OpR X (binaryOp .Add) rAddX := by
  intro pins s σ H x y v u Q I rx ry h
  obtain ⟨a, b, rfl, rfl, hz, q⟩ := h
  exact op_add_str pins s σ H _ _ v u Q I rx ry ⟨_, _, rfl, rfl, by rw [tx_len, tx_len]; exact hz, by rw [tx_app]; exact q⟩
def rMulX : R2 := fun x y H Q => ∃ (l : List Nat) (n : Int), x = .str (tx l) ∧ y = .int n ∧ -100000 ≤ n ∧ n ≤ 100000 ∧ l.length * n.toNat ≤ 100000 ∧ Q (.str (tx (reps n.toNat l))) H
theorem op_mulT : OpR X (binaryOp .Mult) rMulX := op_mul_str
def rInX (neg : Bool) : R2 := fun x y H Q => ∃ (c : Nat) (z : List Nat), x = .str (tx [c]) ∧ y = .str (tx z) ∧ Q (.bl (if neg then !decide (c ∈ z) else decide (c ∈ z))) H
theorem op_inX : OpR X (compareOp .In) (rInX false) := by
  intro pins s σ H x y v u Q I rx ry h
  obtain ⟨c, z, rfl, rfl, q⟩ := h
  exact op_in_sign pins s σ H _ _ v u Q I rx ry ⟨c, tx z, rfl, rfl, by rw [tx_cps]; exact q⟩
theorem op_notInX : OpR X (compareOp .NotIn) (rInX true) := by
  intro pins s σ H x y v u Q I rx ry h
  obtain ⟨c, z, rfl, rfl, q⟩ := h
  exact op_notIn_sign pins s σ H _ _ v u Q I rx ry ⟨c, tx z, rfl, rfl, by rw [tx_cps]; exact q⟩
def rLtX : R2 := fun x y H Q => ∃ a b, x = .str (tx a) ∧ y = .str (tx b) ∧ Q (.bl (decide (a < b))) H
theorem op_ltX : OpR X (compareOp .Lt) rLtX := by
  intro pins s σ H x y v u Q I rx ry h
  obtain ⟨a, b, rfl, rfl, q⟩ := h
  exact op_lt_str pins s σ H _ _ v u Q I rx ry ⟨_, _, rfl, rfl, by rw [tx_cps, tx_cps]; exact q⟩
def rLeX : R2 := fun x y H Q => ∃ a b, x = .str (tx a) ∧ y = .str (tx b) ∧ Q (.bl (!decide (b < a))) H
theorem rLenX_aux (l : List Nat) : ((tx l).length : Int) = (l.length : Int) := by rw [tx_len]
def rLenX : List V → Hp → VK → Prop := fun xs H Q => ∃ l, xs = [.str (tx l)] ∧ l.length ≤ sizeLine ∧ Q (.int (l.length : Nat)) H
theorem call_lenX : CallR X (.builtin "len") rLenX := by
  intro pins s σ H xs us Q I r h
  obtain ⟨l, rfl, hz, q⟩ := h
  exact call_len_str pins s σ H _ us Q I r ⟨tx l, rfl, by rw [tx_len]; exact hz, by rw [tx_len]; exact q⟩
def rIxX : R2 := fun x y H Q => ∃ (l : List Nat) (i : Int) (c : Nat), x = .str (tx l) ∧ y = .int i ∧ l.length ≤ sizeLine ∧ atI l i = some c ∧ Q (.str (tx [c])) H
theorem ix_strX : IxR X rIxX := by
  intro value slice pins s σ H x y v u Q I rx ry h hs
  obtain ⟨l, i, c, rfl, rfl, hz, ha, q⟩ := h
  exact ix_str value slice pins s σ H _ _ v u Q I rx ry ⟨tx l, i, c, rfl, rfl, by rw [tx_len]; exact hz, by rw [tx_cps]; exact ha, q⟩ hs
def cutL (l : List Nat) (lo hi : Option Int) : List Nat := (l.drop (HT.sIx l.length 0 lo)).take (HT.sIx l.length l.length hi - HT.sIx l.length 0 lo)
theorem cutS_tx (l : List Nat) (lo hi : Option Int) : cutS (tx l) lo hi = tx (cutL l lo hi) := by
  unfold cutS cutL
  rw [tx_len, tx_cps]
  rfl
def rSlX : V → Option Int → Option Int → Hp → VK → Prop := fun x lo hi H Q => ∃ l, x = .str (tx l) ∧ l.length ≤ sizeLine ∧ Q (.str (tx (cutL l lo hi))) H
theorem sl_strX : SlR X rSlX := by
  intro pins s σ H x v vl vu l u a Q I rx hsl pl pu h
  obtain ⟨z, rfl, hz, q⟩ := h
  exact sl_str pins s σ H _ v vl vu l u a Q I rx hsl pl pu ⟨tx z, rfl, by rw [tx_len]; exact hz, by rw [cutS_tx]; exact q⟩
/-- letters.index(c), each letter once -/
theorem occ_nodup {z : List Nat} (nd : z.Nodup) {i : Nat} {c : Nat} (h : z[i]? = some c) : ∃ rest, Builtin.Str.occurrences (tx z) (tx [c]) 0 (tx z).length 1 = i :: rest := by
  have hc : c ∈ z := List.mem_of_getElem? h
  have hf := PySem.StrLaws.found_one (tx z) c
  rw [tx_cps, decide_eq_true hc] at hf
  have hsp := PySem.StrLaws.occ_spec (tx z) (tx [c]) 0 (tx z).length 1
  have e1 : (⟨#[c]⟩ : Str) = tx [c] := rfl
  rw [e1] at hf
  cases ho : Builtin.Str.occurrences (tx z) (tx [c]) 0 (tx z).length 1 with
  | nil => rw [ho] at hf; simp at hf
  | cons j rest =>
    obtain ⟨hj, hs⟩ := hsp j (by rw [ho]; exact List.mem_cons_self)
    rw [tx_len, tx_len] at hj
    have hj2 : z[j]? = some c := by
      unfold Builtin.Str.subAt at hs
      have h3 : (tx z).cps.extract j (j + (tx [c]).length) = (tx [c]).cps := by simpa using hs
      have h4 := congrArg Array.toList h3
      rw [tx_len] at h4
      simp only [tx, List.length_cons, List.length_nil, Nat.zero_add, Array.toList_extract, List.extract_eq_take_drop] at h4
      have h5 : (List.take 1 (List.drop j z))[0]? = some c := by
        have : j + 1 - j = 1 := by omega
        rw [this] at h4
        rw [h4]; rfl
      simpa using h5
    have : j = i := by
      have l1 : j < z.length := (List.getElem?_eq_some_iff.mp hj2).1
      have l2 : i < z.length := (List.getElem?_eq_some_iff.mp h).1
      exact (List.getElem_inj (h₀ := l1) (h₁ := l2) nd).mp (by
        rw [List.getElem?_eq_getElem l1] at hj2
        rw [List.getElem?_eq_getElem l2] at h
        exact (Option.some.inj hj2).trans (Option.some.inj h).symm)
    subst this
    exact ⟨rest, rfl⟩
def rIndexX : V → List V → Hp → VK → Prop := fun x xs H Q => ∃ (z : List Nat) (c i : Nat), x = .str (tx z) ∧ xs = [.str (tx [c])] ∧ z.Nodup ∧ z[i]? = some c ∧ Q (.int (i : Nat)) H
theorem mt_indexT : MtR X "str.index" rIndexX := by
  intro pins s σ H x xs v us Q I rx rs h
  obtain ⟨z, c, i, rfl, rfl, nd, hi, q⟩ := h
  obtain ⟨rest, ho⟩ := occ_nodup nd hi
  exact mt_sindex pins s σ H _ _ v us Q I rx rs ⟨_, _, i, rest, rfl, rfl, ho, q⟩
theorem join_tx : ∀ ls : List (List Nat), Str.join ("" : Str) (ls.map tx) = tx ls.flatten
  | [] => rfl
  | [a] => by simp [Str.join]
  | a :: b :: r => by
    have h := join_tx (b :: r)
    rw [List.map_cons] at h
    have e : Str.join ("" : Str) (tx a :: tx b :: r.map tx) = tx a ++ "" ++ Str.join ("" : Str) (tx b :: r.map tx) := rfl
    rw [List.map_cons, List.map_cons, e, h, List.flatten_cons (l := a)]
    have e0 : ("" : Str) = tx [] := rfl
    rw [e0, tx_app, tx_app, List.append_nil]
def rJoinX (K : PySem.W.Frag) : V → List V → Hp → VK → Prop := fun x xs H Q => ∃ (p : Addr) (ls : List (List Nat)), x = .str (tx []) ∧ xs = [.ref p] ∧ SqL K H p (ls.map fun l => V.str (tx l)) ∧ (ls.map List.length).sum ≤ 16777216 ∧ Q (.str (tx ls.flatten)) H
theorem mt_joinX : MtR X "str.join" (rJoinX X.K) := by
  intro pins s σ H x xs v us Q I rx rs h
  obtain ⟨p, ls, rfl, rfl, hp, hz, q⟩ := h
  refine mt_join pins s σ H _ _ v us Q I rx rs ⟨tx [], p, ls.map tx, rfl, rfl, .inl ?_, ?_, ?_⟩
  · rw [List.map_map]; exact hp
  · have : (List.map (fun x => x.length) (List.map tx ls)) = ls.map List.length := by
      rw [List.map_map]; exact List.map_congr_left fun l _ => tx_len l
    rw [this]
    have e0 : (tx []).length = 0 := rfl
    rw [e0]; omega
  · have : Txt.join (tx []) (ls.map tx) = tx ls.flatten := (PySem.StrLaws.glued_eq_join _ _).trans (join_tx ls)
    rw [this]; exact q
end
end Un

namespace Un
open PySem PySem.Spec PyProof.Rows L2
section
variable {K : PySem.W.Frag} {σ : L2.St} {H : Hp} {Q : VK} {D : Ends} {i j : Nat} {v x y : V} {ta tb te : TE} {tr : TA} {t u c : TT} {r : R2} {g : TG} {tu tw : TS} {A B R : Prop}
theorem rd_var (h : σ[i]? = some (some v)) (q : Q v H) : tVar i σ H Q := ⟨v, h, q⟩
theorem rd_c (q : Q v H) : tC v σ H Q := q
theorem rd_op (h : ta σ H fun x H1 => tb σ H1 fun y H2 => r x y H2 Q) : tOp r ta tb σ H Q := h
theorem rd_un {r : V → Hp → VK → Prop} (h : ta σ H fun x H1 => r x H1 Q) : tUn r ta σ H Q := h
theorem rd_I0 {g : Int → Int → V} {a b : Int} (q : Q (g a b) H) : rI0 g (.int a) (.int b) H Q := ⟨a, b, rfl, rfl, q⟩
theorem rd_I {C : Int → Int → Prop} {g : Int → Int → V} {a b : Int} (hc : C a b) (q : Q (g a b) H) : rI C g (.int a) (.int b) H Q := ⟨a, b, rfl, rfl, hc, q⟩
theorem rd_U {g : Int → V} {a : Int} (q : Q (g a) H) : rU g (.int a) H Q := ⟨a, rfl, q⟩
theorem rd_eq (hs : scal x y = true) (q : Q (.bl (decide (x = y))) H) : rEq x y H Q := ⟨hs, q⟩
theorem rd_ne (hs : scal x y = true) (q : Q (.bl (!decide (x = y))) H) : rNe x y H Q := ⟨hs, q⟩
theorem rd_isN (q : Q (.bl (decide (x = .non))) H) : (fun x y H Q => y = V.non ∧ Q (.bl (decide (x = .non))) H : R2) x .non H Q := ⟨rfl, q⟩
theorem rd_test {Q : Bool → Hp → Prop} (h : te σ H fun x H' => ∃ k, x = .bl k ∧ Q k H') : tTest te σ H Q := h
theorem rd_B {Q : Bool → Hp → Prop} (h : te σ H fun x H' => ∃ k, x = .bl k ∧ Q k H') : tB te σ H Q := h
theorem rd_bl {b : Bool} {P : Bool → Prop} (q : P b) : ∃ k, V.bl b = V.bl k ∧ P k := ⟨b, rfl, q⟩
theorem rd_and {Q : Bool → Hp → Prop} (h : t σ H fun c H1 => if c = true then u σ H1 Q else Q false H1) : tAnd t u σ H Q := h
theorem rd_or {Q : Bool → Hp → Prop} (h : t σ H fun c H1 => if c = true then Q true H1 else u σ H1 Q) : tOr t u σ H Q := h
theorem rd_not {Q : Bool → Hp → Prop} (h : t σ H fun c H1 => Q (!c) H1) : tNot t σ H Q := h
theorem rd_andV (h : ta σ H fun x H1 => ∃ c, x = .bl c ∧ if c = true then tb σ H1 Q else Q (.bl false) H1) : tAndV ta tb σ H Q := h
theorem rd_orV (h : ta σ H fun x H1 => ∃ c, x = .bl c ∧ if c = true then Q (.bl true) H1 else tb σ H1 Q) : tOrV ta tb σ H Q := h
theorem rd_notV (h : ta σ H fun x H1 => ∃ c, x = .bl c ∧ Q (.bl (!c)) H1) : tNotV ta σ H Q := h
theorem rd_if (h : t σ H fun c H1 => if c = true then ta σ H1 Q else tb σ H1 Q) : tIf t ta tb σ H Q := h
theorem rd_ite {b : Bool} (h1 : b = true → A) (h2 : b = false → B) : if b = true then A else B := by
  cases b with
  | true => exact h1 rfl
  | false => exact h2 rfl
theorem rd_seq (h : tu { D with nx := tw D } σ H) : tSeq tu tw D σ H := h
theorem rd_asg (h : te σ H fun x H1 => g x σ H1 D.nx) : tAsg te g D σ H := h
theorem rd_gname {Q : L2.St → Hp → Prop} (h : Q (σ.set i (some v)) H) : gName i v σ H Q := h
theorem rd_gsub {to ti : TE} {t : TSet} {Q : L2.St → Hp → Prop} (h : to σ H fun o H1 => ti σ H1 fun i H2 => t o i v H2 fun H3 => Q σ H3) : gSub to ti t v σ H Q := h
theorem rd_gtup {n : Nat} {tt : TGs} {a : Addr} {xs : List V} {Q : L2.St → Hp → Prop} (h : SqT K H a xs) (hn : xs.length = n) (q : tt xs σ H Q) : gTup K n tt (.ref a) σ H Q := ⟨a, xs, rfl, h, hn, q⟩
theorem rd_gcons {t : TG} {u : TGs} {v : V} {vs : List V} {Q : L2.St → Hp → Prop} (h : t v σ H fun σ' H' => u vs σ' H' Q) : gCons t u (v :: vs) σ H Q := ⟨v, vs, rfl, h⟩
theorem rd_gnil {Q : L2.St → Hp → Prop} (h : Q σ H) : gNil [] σ H Q := ⟨rfl, h⟩
theorem rd_ifS (h : c σ H fun b H1 => if b = true then tu D σ H1 else tw D σ H1) : tIfS c tu tw D σ H := h
theorem rd_ret (h : te σ H D.rt) : tRet te D σ H := h
theorem rd_retN (h : D.rt .non H) : tRetN D σ H := h
theorem rd_drop (h : te σ H fun _ H1 => D.nx σ H1) : tDrop te D σ H := h
theorem rd_next (h : D.nx σ H) : tNext D σ H := h
theorem rd_break (h : D.bk σ H) : tBreak D σ H := h
theorem rd_cont (h : D.ct σ H) : tCont D σ H := h
theorem rd_call {sp : Sp} {dvs : List V} {E : XK} (h : tr σ H fun vs H1 => sp (vs ++ dvs) H1 Q E) : tCall sp dvs E tr σ H Q := h
theorem rd_cons {Q : List V → Hp → Prop} (h : te σ H fun x H1 => tr σ H1 fun xs H2 => Q (x :: xs) H2) : tCons te tr σ H Q := h
theorem rd_nil {Q : List V → Hp → Prop} (h : Q [] H) : tNil σ H Q := h
theorem rd_cb {r : List V → Hp → VK → Prop} (h : tr σ H fun vs H1 => r vs H1 Q) : tCB r tr σ H Q := h
theorem rd_bm {T : String} {r : V → List V → Hp → VK → Prop} (h : te σ H fun x H1 => tyV K T x H1 ∧ tr σ H1 fun xs H2 => r x xs H2 Q) : tBM K T r te tr σ H Q := h
theorem rd_bm0 {T : String} {r : V → List V → Hp → VK → Prop} (h : te σ H fun x H1 => tyV K T x H1 ∧ r x [] H1 Q) : tBM0 K T r te σ H Q := h
theorem rd_tyS {z : Str} (q : R) : tyV K "str" (.str z) H ∧ R := ⟨rfl, q⟩
theorem rd_tyL {p : Addr} {xs : List V} (h : SqL K H p xs) (q : R) : tyV K "list" (.ref p) H ∧ R := ⟨.inl ⟨rfl, _, h⟩, q⟩
theorem rd_lst (h : tr σ H fun xs H1 => xs.length ≤ sizeLine ∧ ∀ p, H1 p = none → Q (.ref p) (upd H1 p (.lst xs))) : tLst tr σ H Q := h
theorem rd_tup (h : tr σ H fun xs H1 => xs.length ≤ sizeLine ∧ ∀ p, H1 p = none → Q (.ref p) (upd H1 p (.tup xs))) : tTup tr σ H Q := h
theorem rd_sl {r : V → Option Int → Option Int → Hp → VK → Prop} {tl th : TO} (h : te σ H fun x H1 => tl σ H1 fun l H2 => th σ H2 fun u H3 => r x l u H3 Q) : tSl r te tl th σ H Q := h
theorem rd_part {Q : Option Int → Hp → Prop} (h : te σ H fun x H1 => ∃ i, x = .int i ∧ Q (some i) H1) : tPart te σ H Q := h
theorem rd_some {a : Int} {P : Int → Prop} (q : P a) : ∃ i, V.int a = .int i ∧ P i := ⟨a, rfl, q⟩
theorem rd_strE {z : Str} {P : Str → Prop} (q : P z) : ∃ y, V.str z = .str y ∧ P y := ⟨z, rfl, q⟩
theorem rd_one {a : V} {P : V → Prop} (q : P a) : ∃ x, [a] = [x] ∧ P x := ⟨a, rfl, q⟩
theorem rd_nopart {Q : Option Int → Hp → Prop} (h : Q none H) : tNoPart σ H Q := h
theorem rd_par {ta : TA} (h : ta σ H fun vs H1 => ∃ v w, vs = [v, w] ∧ D.nx ((σ.set i (some v)).set j (some w)) H1) : tPar i j ta D σ H := h
theorem rd_two {P : V → V → Prop} {a b : V} (q : P a b) : ∃ v w, [a, b] = [v, w] ∧ P v w := ⟨a, b, rfl, q⟩
/-- named rules -/
theorem rd_addX {a b : List Nat} (hz : a.length + b.length ≤ sizeLine) (q : Q (.str (tx (a ++ b))) H) : rAddX (.str (tx a)) (.str (tx b)) H Q := ⟨a, b, rfl, rfl, hz, q⟩
theorem rd_mulX {l : List Nat} {n : Int} (h1 : -100000 ≤ n) (h2 : n ≤ 100000) (h3 : l.length * n.toNat ≤ 100000) (q : Q (.str (tx (reps n.toNat l))) H) : rMulX (.str (tx l)) (.int n) H Q := ⟨l, n, rfl, rfl, h1, h2, h3, q⟩
theorem rd_inX {neg : Bool} {n : Nat} {z : List Nat} (q : Q (.bl (if neg then !decide (n ∈ z) else decide (n ∈ z))) H) : rInX neg (.str (tx [n])) (.str (tx z)) H Q := ⟨n, z, rfl, rfl, q⟩
theorem rd_ltX {a b : List Nat} (q : Q (.bl (decide (a < b))) H) : rLtX (.str (tx a)) (.str (tx b)) H Q := ⟨a, b, rfl, rfl, q⟩
theorem rd_lenX {l : List Nat} (hz : l.length ≤ sizeLine) (q : Q (.int (l.length : Nat)) H) : rLenX [.str (tx l)] H Q := ⟨l, rfl, hz, q⟩
theorem rd_ixX {l : List Nat} {a : Int} {n : Nat} (hz : l.length ≤ sizeLine) (h : atI l a = some n) (q : Q (.str (tx [n])) H) : rIxX (.str (tx l)) (.int a) H Q := ⟨l, a, n, rfl, rfl, hz, h, q⟩
theorem rd_slX {l : List Nat} {lo hi : Option Int} (hz : l.length ≤ sizeLine) (q : Q (.str (tx (cutL l lo hi))) H) : rSlX (.str (tx l)) lo hi H Q := ⟨l, rfl, hz, q⟩
theorem rd_indexX {z : List Nat} {n k : Nat} (nd : z.Nodup) (h : z[k]? = some n) (q : Q (.int (k : Nat)) H) : rIndexX (.str (tx z)) [.str (tx [n])] H Q := ⟨z, n, k, rfl, rfl, nd, h, q⟩
theorem rd_repr (hx : scalR x) (q : Q (.str (reprS x)) H) : rRepr [x] H Q := ⟨x, rfl, hx, q⟩
theorem rd_ixL {p : Addr} {xs : List V} {a : Int} (h : SqL K H p xs) (ha : atI xs a = some v) (q : Q v H) : rIxL K (.ref p) (.int a) H Q := ⟨p, xs, a, v, rfl, rfl, h, ha, q⟩
theorem rd_ixT {p : Addr} {xs : List V} {a : Int} (h : SqT K H p xs) (ha : atI xs a = some v) (q : Q v H) : rIxT K (.ref p) (.int a) H Q := ⟨p, xs, a, v, rfl, rfl, h, ha, q⟩
theorem rd_setL {p : Addr} {xs : List V} {a : Int} {n : Nat} {Q : Hp → Prop} (h : H p = some (.lst xs)) (ha : ixN xs.length a = some n) (q : Q (upd H p (.lst (xs.set n v)))) : rSetL (.ref p) (.int a) v H Q := ⟨p, xs, a, n, rfl, rfl, h, ha, q⟩
theorem rd_app {p : Addr} {xs : List V} (h : H p = some (.lst xs)) (hz : xs.length < sizeLine) (q : Q .non (upd H p (.lst (xs ++ [v])))) : rAppend (.ref p) [v] H Q := ⟨p, xs, v, rfl, rfl, h, hz, q⟩
theorem rd_pop {p : Addr} {xs : List V} (h : H p = some (.lst (xs ++ [v]))) (q : Q v (upd H p (.lst xs))) : rPop (.ref p) [] H Q := ⟨p, xs ++ [v], v, rfl, rfl, h, by simp, by rw [List.dropLast_concat]; exact q⟩
end
/-! ### heaps: what stays when two objects D and L change -/
def Keep (D L : Addr) (H H' : Hp) : Prop := ∀ a o, H a = some o → a ≠ D → a ≠ L → H' a = some o
theorem Keep.refl {D L : Addr} (H : Hp) : Keep D L H H := fun _ _ h _ _ => h
theorem Keep.trans {D L : Addr} {H H1 H2 : Hp} (a : Keep D L H H1) (b : Keep D L H1 H2) : Keep D L H H2 := fun c o h h1 h2 => b c o (a c o h h1 h2) h1 h2
theorem Keep.new {D L p : Addr} {H : Hp} {o : HO} (h : H p = none) : Keep D L H (upd H p o) := fun a u e _ _ => by
  rw [upd_ne (ne_of_none e h)]
  exact e
theorem Keep.own {D L p : Addr} {H : Hp} {o : HO} (h : p = D ∨ p = L) : Keep D L H (upd H p o) := fun a u e h1 h2 => by
  rw [upd_ne (by rcases h with h | h <;> (rw [h]; assumption))]
  exact e
theorem Keep.of_same {D L : Addr} {H H' : Hp} (h : Same H H') : Keep D L H H' := fun a o e _ _ => h a o e
theorem same_upd {H : Hp} {p : Addr} {o : HO} (h : H p = none) : Same H (upd H p o) := fun b x e => by
  rw [upd_ne (ne_of_none e h)]
  exact e
theorem mulW_of {i j : Int} (h1 : i.natAbs < 2 ^ 250) (h2 : j.natAbs < 2 ^ 250) : CMulW i j := wide_mul h1 h2 (by decide) (by decide) (by decide)

/-! ### flat lists as data -/
theorem dpAll_ints {K : PySem.W.Frag} {H : Hp} : ∀ ns : List Int, DpAll K H (ns.map V.int) (ns.map PyData.int)
  | [] => .nil
  | n :: r => .cons (.int n) (dpAll_ints r)
theorem canLay_ints : ∀ ns : List Int, PyData.canLayAll0 (ns.map PyData.int) = true
  | [] => by simp [PyData.canLayAll0]
  | n :: r => by
    have h := canLay_ints r
    simp [PyData.canLayAll0, PyData.canLay0, h]
theorem depth_ints : ∀ ns : List Int, PyData.depthAll (ns.map PyData.int) = 0
  | [] => by simp [PyData.depthAll]
  | n :: r => by
    have h := depth_ints r
    simp [PyData.depthAll, PyData.depth, h]
theorem shaped_ints (ns : List Int) : SeqAt.shaped (.list (ns.map PyData.int)) = true := by
  unfold SeqAt.shaped
  simp [PyData.canLay0, canLay_ints, PyData.depth, depth_ints]
theorem eqv_nil_list (ds : List PyData) : PyData.eqv (.list ds) (.list []) = ds.isEmpty := by
  cases ds <;> simp [PyData.eqv, PyData.eqvAll]
section
variable {K : PySem.W.Frag} {H : Hp} {Q : VK}
theorem rd_neNil {p e : Addr} {ns : List Int} (h1 : SqL K H p (ns.map V.int)) (h2 : SqL K H e []) (q : Q (.bl (!ns.isEmpty)) H) : rNeD K (.ref p) (.ref e) H Q :=
  ⟨.list (ns.map PyData.int), .list [], .lst h1 (dpAll_ints ns), .lst h2 .nil, shaped_ints ns, shaped_ints [], by
    rw [eqv_nil_list]
    cases ns <;> exact q⟩
theorem rd_int1 {i : Int} {x : List Int} (q : Q (.int i) H) : (∃ j, [V.int i] = [V.int j] ∧ Q (.int j) H) ∨ ∃ k, [V.int i] = [V.bl k] ∧ Q (.int (if k = true then 1 else 0)) H := .inl ⟨i, rfl, q⟩
end
theorem atI_last1 {xs : List V} {v : V} (h : xs.getLast? = some v) : atI xs (-1) = some v := by
  obtain ⟨ys, rfl⟩ : ∃ ys, xs = ys ++ [v] := by
    cases hx : xs with
    | nil => rw [hx] at h; simp at h
    | cons a r =>
      have := List.dropLast_concat_getLast (l := xs) (by rw [hx]; simp)
      rw [List.getLast?_eq_getLast (by rw [hx]; simp)] at h
      exact ⟨xs.dropLast, by rw [← hx, ← Option.some.inj h, this]⟩
  exact atI_last _ _

/-! ### built-ins under names -/
def rIntI : List V → Hp → VK → Prop := fun xs H Q => ∃ i, xs = [.int i] ∧ Q (.int i) H
def rIntB : List V → Hp → VK → Prop := fun xs H Q => ∃ b : Bool, xs = [.bl b] ∧ Q (.int (if b then 1 else 0)) H
def rStrS : List V → Hp → VK → Prop := fun xs H Q => ∃ a, xs = [.str a] ∧ Q (.str a) H
def rListX : List V → Hp → VK → Prop := fun xs H Q => ∃ l : List Nat, xs = [.str (tx l)] ∧ l.length ≤ sizeLine ∧ ∀ p, H p = none → Q (.ref p) (upd H p (.lst (sgs l)))
def rDivmod : List V → Hp → VK → Prop := fun xs H Q => ∃ i j, xs = [.int i, .int j] ∧ 0 < j ∧ j.natAbs.log2 < 9000 ∧ ∀ p, H p = none → Q (.ref p) (upd H p (.tup [.int (i / j), .int (i % j)]))
def rLenQ (K : PySem.W.Frag) : List V → Hp → VK → Prop := fun xs H Q => ∃ p ys, xs = [.ref p] ∧ (SqL K H p ys ∨ SqT K H p ys) ∧ Q (.int (ys.length : Nat)) H
def rSplitW (K : PySem.W.Frag) : List V → Hp → VK → Prop := fun xs H Q => ∃ p ys, xs = [.ref p] ∧ (SqL K H p ys ∨ SqT K H p ys) ∧ ∀ l, H l = none → Q (.ref l) (upd H l (.lst ys))
section
variable {X : Cx}
theorem call_intI : CallR X (.type "int") rIntI := fun pins s σ H xs us Q I r h => call_int1 pins s σ H xs us Q I r (.inl h)
theorem call_intB : CallR X (.type "int") rIntB := fun pins s σ H xs us Q I r h => call_int1 pins s σ H xs us Q I r (.inr h)
theorem call_strS : CallR X (.type "str") rStrS := SkE.call_str_str
theorem call_listX (hc : X.calm = true) : CallR X (.type "list") rListX := call_list_strR hc
theorem call_lenQ : CallR X (.builtin "len") (rLenQ X.K) := call_len_seq
theorem call_listQ : CallR X (.type "list") (rSplitW X.K) := call_list_of
end
section
variable {K : PySem.W.Frag} {H : Hp} {Q : VK}
theorem rd_intI {i : Int} (q : Q (.int i) H) : rIntI [.int i] H Q := ⟨i, rfl, q⟩
theorem rd_intB {b : Bool} (q : Q (.int (if b then 1 else 0)) H) : rIntB [.bl b] H Q := ⟨b, rfl, q⟩
theorem rd_strS {a : Str} (q : Q (.str a) H) : rStrS [.str a] H Q := ⟨a, rfl, q⟩
theorem rd_listX {l : List Nat} (hl : l.length ≤ sizeLine) (q : ∀ p, H p = none → Q (.ref p) (upd H p (.lst (sgs l)))) : rListX [.str (tx l)] H Q := ⟨l, rfl, hl, q⟩
theorem rd_lenL {p : Addr} {ys : List V} (h : SqL K H p ys) (q : Q (.int (ys.length : Nat)) H) : rLenQ K [.ref p] H Q := ⟨p, ys, rfl, .inl h, q⟩
theorem rd_lenT {p : Addr} {ys : List V} (h : SqT K H p ys) (q : Q (.int (ys.length : Nat)) H) : rLenQ K [.ref p] H Q := ⟨p, ys, rfl, .inr h, q⟩
theorem rd_all {p : Addr} {bs : List Bool} (h : SqL K H p (bs.map V.bl)) (q : Q (.bl (bs.all id)) H) : rAll K [.ref p] H Q := ⟨p, bs, rfl, h, q⟩
theorem rd_sortS {p : Addr} {zs : List Str} (h : SqL K H p (zs.map V.str)) (hl : zs.length < 64) (q : ∀ (ys : List Str) (p : Addr), ys.Perm zs → sortedS ys = true → H p = none → Q (.ref p) (upd H p (.lst (ys.map V.str)))) : rSortedS K [.ref p] H Q := ⟨p, zs, rfl, h, hl, q⟩
theorem rd_popAt {p : Addr} {xs : List V} {i : Nat} {y : V} (h : H p = some (.lst xs)) (hi : i < 2 ^ 62) (hy : xs[i]? = some y) (q : Q y (upd H p (.lst (xs.eraseIdx i)))) : rPopAt (.ref p) [.int (i : Nat)] H Q := by
  have hl : i < xs.length := (List.getElem?_eq_some_iff.mp hy).1
  refine ⟨p, xs, (i : Int), i, y, rfl, rfl, h, by omega, by omega, ?_, hy, q⟩
  unfold seqIndex?
  simp
  omega
theorem rd_joinX {p : Addr} {ls : List (List Nat)} (h : SqL K H p (ls.map fun l => V.str (tx l))) (hz : (ls.map List.length).sum ≤ 16777216) (q : Q (.str (tx ls.flatten)) H) : rJoinX K (.str (tx [])) [.ref p] H Q := ⟨p, ls, rfl, rfl, h, hz, q⟩
theorem rd_slL {p : Addr} {xs : List V} {lo hi : Option Int} (h : SqL K H p xs) (q : ∀ n, H n = none → Q (.ref n) (upd H n (.lst (cutV xs lo hi)))) : rSlL K (.ref p) lo hi H Q := ⟨p, xs, rfl, h, q⟩
theorem rd_revL {σ : L2.St} {te : TE} (h : te σ H fun x H1 => ∃ a xs, x = .ref a ∧ SqL K H1 a xs ∧ ∀ p, H1 p = none → Q (.ref p) (upd H1 p (.lst xs.reverse))) : tRevL K te σ H Q := h
end

/-! ### comprehensions and loops -/
theorem same_mut {H H' : Hp} {p : Addr} {o : HO} (e : Same H H') (h : H p = none) : Same H (upd H' p o) := fun a u ha => by
  rw [upd_ne (ne_of_none ha h)]
  exact e a u ha
theorem Keep.mut {D L p : Addr} {H H' : Hp} {o : HO} (e : Keep D L H H') (h : H p = none) : Keep D L H (upd H' p o) := fun a u ha h1 h2 => by
  rw [upd_ne (ne_of_none ha h)]
  exact e a u ha h1 h2
section
variable {K : PySem.W.Frag} {σ : L2.St} {H : Hp} {Q : VK} {D : Ends} {tl te : TE} {tt : TT} {g : TG} {tb : TS} {wi : TI} {vs : List Nat} {R : It → Hp → Prop}
theorem rd_lc (h : wi σ H fun J H1 => ∀ D, H1 D = none → ∃ W : Nat → Nat → Hp → Prop, (∃ m, W 0 m (upd H1 D (.lst []))) ∧ ∀ i m H, W i m H →
  (J.stop i H ∧ Q (.ref D) H) ∨ (J.go i H ∧ ∃ Nx : Hp → Prop, (∀ H', Nx H' → ∃ m', m' < m ∧ W (i + 1) m' H') ∧ ∀ x H', J.yld i H x H' → g x (wipe σ vs) H' fun σ2 H2 => wipe σ2 vs = wipe σ vs ∧ tt σ2 H2 fun b H3 =>
    if b = true then te σ2 H3 fun y H4 => ∃ acc, H4 D = some (.lst acc) ∧ acc.length < sizeLine ∧ Nx (upd H4 D (.lst (acc ++ [y]))) else Nx H3)) : tLc wi g tt te vs σ H Q := h
theorem rd_iList (h : tl σ H fun x H1 => ∃ a, x = .ref a ∧ (∃ xs, SqL K H1 a xs) ∧ R (Itl K a) H1) : iList K tl σ H R := h
theorem rd_iStr (h : tl σ H fun v H1 => ∃ x, v = .str x ∧ R (Its x) H1) : iStr tl σ H R := h
theorem rd_iTup (h : tl σ H fun x H1 => ∃ a, x = .ref a ∧ (∃ xs, SqT K H1 a xs) ∧ R (Itt K a) H1) : iTup K tl σ H R := h
theorem rd_for (h : wi σ H fun J H1 => ∃ W : Nat → Nat → L2.St → Hp → Prop, (∃ m, W 0 m σ H1) ∧ ∀ i m σ H, W i m σ H →
  (J.stop i H ∧ D.nx σ H) ∨ (J.go i H ∧ ∃ N : L2.St → Hp → Prop, (∀ σ' H', N σ' H' → ∃ m', m' < m ∧ W (i + 1) m' σ' H') ∧ ∀ x H', J.yld i H x H' → g x σ H' fun σ2 H2 => tb { D with nx := N, ct := N, bk := D.nx } σ2 H2)) : tFor wi g tb D σ H := h
theorem rd_rng1 {ta : TA} (h : ta σ H fun vs H1 => ∃ j : Int, vs = [.int j] ∧ -(2 ^ 62) ≤ j ∧ j < 2 ^ 62 ∧ R (Itr 0 j.toNat) H1) : iRng1 ta σ H R := h
theorem rd_rng2 {ta : TA} (h : ta σ H fun vs H1 => ∃ i j : Int, vs = [.int i, .int j] ∧ (-(2 ^ 62) ≤ i ∧ i < 2 ^ 62 ∧ -(2 ^ 62) ≤ j ∧ j < 2 ^ 62) ∧ R (Itr i (j - i).toNat) H1) : iRng2 ta σ H R := h
theorem rd_yes {Q : Bool → Hp → Prop} (h : Q true H) : tYes σ H Q := h
theorem rd_cut {t u : TS} (Mid : L2.St → Hp → Prop) (h : t { D with nx := Mid } σ H) (k : ∀ σ' H', Mid σ' H' → u D σ' H') : Evl.tCut t u D σ H := ⟨Mid, h, k⟩
end
theorem cutV_ints (ns : List Int) (lo hi : Option Int) : ∃ zs : List Int, cutV (ns.map V.int) lo hi = zs.map V.int ∧ zs.length ≤ ns.length := by
  refine ⟨(ns.drop (HT.sIx (ns.map V.int).length 0 lo)).take (HT.sIx (ns.map V.int).length (ns.map V.int).length hi - HT.sIx (ns.map V.int).length 0 lo), ?_, ?_⟩
  · unfold cutV
    rw [List.map_take, List.map_drop]
  · rw [List.length_take, List.length_drop]
    omega
theorem take_snoc {α β : Type} {xs : List α} {i : Nat} {x : α} (f : α → β) (h : xs[i]? = some x) : (xs.take (i + 1)).map f = (xs.take i).map f ++ [f x] := by
  rw [List.take_add_one, h, List.map_append]
  rfl
theorem get_map {α : Type} {xs : List α} {f : α → V} {i : Nat} {v : V} (h : (xs.map f)[i]? = some v) : ∃ x, xs[i]? = some x ∧ v = f x := by
  rw [List.getElem?_map] at h
  cases e : xs[i]? with
  | none => rw [e] at h; cases h
  | some x => rw [e] at h; exact ⟨x, rfl, (Option.some.inj h).symm⟩

/-! ### a sequence that is a list or a text -/
def rLenA (K : PySem.W.Frag) : List V → Hp → VK → Prop := fun xs H Q => rLenQ K xs H Q ∨ rLenX xs H Q
def rIxA (K : PySem.W.Frag) : R2 := fun x y H Q => rIxL K x y H Q ∨ rIxX x y H Q
theorem sgs_len (l : List Nat) : (sgs l).length = l.length := by simp [sgs]
section
variable {X : Cx}
theorem call_lenA : CallR X (.builtin "len") (rLenA X.K) := fun pins s σ H xs us Q I r h => h.elim (call_lenQ pins s σ H xs us Q I r) (call_lenX pins s σ H xs us Q I r)
theorem ix_any : IxR X (rIxA X.K) := ix_list.or ix_strX
end
section
variable {K : PySem.W.Frag} {H : Hp} {Q : VK} {v x : V} {ys : List V} {j : Nat}
theorem rd_lenA (h : (∃ a, v = .ref a ∧ SqL K H a ys) ∨ ∃ l, v = .str (tx l) ∧ ys = sgs l ∧ l.length ≤ sizeLine) (q : Q (.int (ys.length : Nat)) H) : rLenA K [v] H Q := by
  rcases h with ⟨a, rfl, h⟩ | ⟨l, rfl, rfl, h⟩
  · exact .inl ⟨a, ys, rfl, .inl h, q⟩
  · exact .inr ⟨l, rfl, h, by rw [sgs_len] at q; exact q⟩
theorem rd_ixA (h : (∃ a, v = .ref a ∧ SqL K H a ys) ∨ ∃ l, v = .str (tx l) ∧ ys = sgs l ∧ l.length ≤ sizeLine) (hj : ys[j]? = some x) (q : Q x H) : rIxA K v (.int (j : Nat)) H Q := by
  rcases h with ⟨a, rfl, h⟩ | ⟨l, rfl, rfl, h⟩
  · exact .inl ⟨a, ys, _, x, rfl, rfl, h, atI_nat hj, q⟩
  · obtain ⟨c, hc, rfl⟩ := get_map hj
    exact .inr ⟨l, _, c, rfl, rfl, h, atI_nat hc, q⟩
end

/-! ### sorted sgs -/
theorem perm_map {α β : Type} {f : α → β} : ∀ {ys : List β} {xs : List α}, ys.Perm (xs.map f) → ∃ zs : List α, zs.Perm xs ∧ ys = zs.map f := by
  intro ys xs h
  generalize hz : xs.map f = zs at h
  induction h generalizing xs with
  | nil => exact ⟨xs, List.Perm.refl _, hz.symm⟩
  | cons x h ih =>
    cases xs with
    | nil => simp at hz
    | cons a r =>
      rw [List.map_cons] at hz
      injection hz with h1 h2
      obtain ⟨zs, p, e⟩ := ih h2
      exact ⟨a :: zs, p.cons a, by rw [List.map_cons, h1, e]⟩
  | swap x y l =>
    cases xs with
    | nil => simp at hz
    | cons a r =>
      cases r with
      | nil => simp at hz
      | cons b t =>
        rw [List.map_cons, List.map_cons] at hz
        injection hz with h1 h2
        injection h2 with h2 h3
        exact ⟨b :: a :: t, List.Perm.swap _ _ _, by rw [List.map_cons, List.map_cons, h1, h2, h3]⟩
  | trans h1 h2 ih1 ih2 =>
    obtain ⟨zs, p, e⟩ := ih2 hz
    obtain ⟨ws, p2, e2⟩ := ih1 e.symm
    exact ⟨ws, p2.trans p, e2⟩
theorem ltCps_one (a b : Nat) : ltCps [a] [b] = decide (a < b) := by
  first | rfl | simp [ltCps]
theorem rising_signs : ∀ (ks : List Nat) (p : Nat), risingS (tx [p]) (ks.map fun c => tx [c]) = true → (p :: ks).Pairwise (· ≤ ·)
  | [], p, _ => by simp
  | k :: r, p, h => by
    rw [List.map_cons] at h
    unfold risingS at h
    rw [Bool.and_eq_true, tx_cps, tx_cps, ltCps_one] at h
    have h1 : p ≤ k := by simpa using h.1
    have h2 := rising_signs r k h.2
    refine List.Pairwise.cons (fun x hx => ?_) h2
    rcases List.mem_cons.mp hx with e | hx
    · omega
    · have := (List.pairwise_cons.mp h2).1 x hx
      omega
theorem sorted_signs {fs : List Nat} {ys : List Str} (hp : ys.Perm (fs.map fun c => tx [c])) (hs : sortedS ys = true) (nd : fs.Nodup) : ∃ ks : List Nat, ys = (ks.map fun c => tx [c]) ∧ ks.Perm fs ∧ ks.Pairwise (· < ·) := by
  obtain ⟨ks, p, rfl⟩ := perm_map hp
  refine ⟨ks, rfl, p, ?_⟩
  have hle : ks.Pairwise (· ≤ ·) := by
    cases ks with
    | nil => exact List.Pairwise.nil
    | cons a r => exact rising_signs r a hs
  have hne : ks.Nodup := p.nodup_iff.mpr nd
  exact (hle.and hne).imp fun h => by omega
theorem flat_ones : ∀ ks : List Nat, (ks.map fun c => [c]).flatten = ks
  | [] => rfl
  | k :: r => by rw [List.map_cons, List.flatten_cons, flat_ones r]; rfl
theorem eraseIdx_perm {α : Type} : ∀ {xs : List α} {i : Nat} {x : α}, xs[i]? = some x → (x :: xs.eraseIdx i).Perm xs
  | [], _, _, h => by simp at h
  | a :: r, 0, x, h => by
    have : a = x := by simpa using h
    subst this
    exact List.Perm.refl _
  | a :: r, i + 1, x, h => by
    have ih := eraseIdx_perm (xs := r) (i := i) (x := x) (by simpa using h)
    rw [List.eraseIdx_cons_succ]
    exact (List.Perm.swap _ _ _).trans (ih.cons a)
theorem sgs_erase (l : List Nat) (i : Nat) : (sgs l).eraseIdx i = sgs (l.eraseIdx i) := by
  unfold sgs
  induction l generalizing i with
  | nil => simp
  | cons a r ih =>
    cases i with
    | zero => simp
    | succ i => simp [ih]

/-! ### walks over a text -/
theorem lc_text {l : List Nat} {g : TG} {tt : TT} {te : TE} {vs : List Nat} {σ : L2.St} {H1 : Hp} {D : Addr} {Qd : Hp → Prop} (Pv : Nat → Hp → Prop) (h0 : Pv 0 (upd H1 D (.lst [])))
    (hs : ∀ (i c : Nat) H, l[i]? = some c → Pv i H → g (.str (tx [c])) (wipe σ vs) H fun σ2 H2 => wipe σ2 vs = wipe σ vs ∧ tt σ2 H2 fun b H3 =>
      if b = true then te σ2 H3 fun y H4 => ∃ acc, H4 D = some (.lst acc) ∧ acc.length < sizeLine ∧ Pv (i + 1) (upd H4 D (.lst (acc ++ [y]))) else Pv (i + 1) H3) (hd : ∀ H, Pv l.length H → Qd H) :
    ∃ W : Nat → Nat → Hp → Prop, (∃ m, W 0 m (upd H1 D (.lst []))) ∧ ∀ i m H, W i m H →
      ((Its (tx l)).stop i H ∧ Qd H) ∨ ((Its (tx l)).go i H ∧ ∃ Nx : Hp → Prop, (∀ H', Nx H' → ∃ m', m' < m ∧ W (i + 1) m' H') ∧ ∀ x H', (Its (tx l)).yld i H x H' → g x (wipe σ vs) H' fun σ2 H2 => wipe σ2 vs = wipe σ vs ∧ tt σ2 H2 fun b H3 =>
        if b = true then te σ2 H3 fun y H4 => ∃ acc, H4 D = some (.lst acc) ∧ acc.length < sizeLine ∧ Nx (upd H4 D (.lst (acc ++ [y]))) else Nx H3) := by
  have hsz : (tx l).cps.size = l.length := by simp [tx]
  refine ⟨fun i m H => m + i = l.length ∧ Pv i H, ⟨l.length, rfl, h0⟩, fun i m H h => ?_⟩
  obtain ⟨hm, p⟩ := h
  by_cases hi : i < l.length
  · refine .inr ⟨show i < (tx l).cps.size by rw [hsz]; exact hi, Pv (i + 1), fun H' p' => ⟨m - 1, by omega, by omega, p'⟩, fun x H' hy => ?_⟩
    obtain ⟨rfl, c, hc, rfl⟩ := hy
    have hc2 : l[i]? = some c := by simpa [tx] using hc
    exact hs i c _ hc2 p
  · have e : i = l.length := by omega
    subst e
    exact .inl ⟨show (tx l).cps.size ≤ l.length by rw [hsz]; exact Nat.le_refl _, hd H p⟩
theorem for_text {l : List Nat} {g : TG} {tb : TS} {D : Ends} {σ : L2.St} {H : Hp} (Pv : Nat → L2.St → Hp → Prop) (h0 : Pv 0 σ H)
    (hs : ∀ (i c : Nat) σ H, l[i]? = some c → Pv i σ H → g (.str (tx [c])) σ H fun σ2 H2 => tb { D with nx := Pv (i + 1), ct := Pv (i + 1), bk := D.nx } σ2 H2) (hd : ∀ σ H, Pv l.length σ H → D.nx σ H) :
    ∃ W : Nat → Nat → L2.St → Hp → Prop, (∃ m, W 0 m σ H) ∧ ∀ i m σ H, W i m σ H →
      ((Its (tx l)).stop i H ∧ D.nx σ H) ∨ ((Its (tx l)).go i H ∧ ∃ N : L2.St → Hp → Prop, (∀ σ' H', N σ' H' → ∃ m', m' < m ∧ W (i + 1) m' σ' H') ∧ ∀ x H', (Its (tx l)).yld i H x H' → g x σ H' fun σ2 H2 => tb { D with nx := N, ct := N, bk := D.nx } σ2 H2) := by
  have hsz : (tx l).cps.size = l.length := by simp [tx]
  refine ⟨fun i m σ H => m + i = l.length ∧ Pv i σ H, ⟨l.length, rfl, h0⟩, fun i m σ H h => ?_⟩
  obtain ⟨hm, p⟩ := h
  by_cases hi : i < l.length
  · refine .inr ⟨show i < (tx l).cps.size by rw [hsz]; exact hi, Pv (i + 1), fun σ' H' p' => ⟨m - 1, by omega, by omega, p'⟩, fun x H' hy => ?_⟩
    obtain ⟨rfl, c, hc, rfl⟩ := hy
    have hc2 : l[i]? = some c := by simpa [tx] using hc
    exact hs i c _ _ hc2 p
  · have e : i = l.length := by omega
    subst e
    exact .inl ⟨show (tx l).cps.size ≤ l.length by rw [hsz]; exact Nat.le_refl _, hd σ H p⟩
def rDivm : List V → Hp → VK → Prop := fun xs H Q => ∃ i j, xs = [.int i, .int j] ∧ 0 < j ∧ j < 1000000000 ∧ ∀ p, H p = none → Q (.ref p) (upd H p (.tup [.int (i / j), .int (i % j)]))
theorem call_divm {X : Cx} : CallR X (.builtin "divmod") rDivm := fun pins s σ H xs us Q I r h => by
  obtain ⟨i, j, e, h1, h2, q⟩ := h
  exact call_divmod pins s σ H xs us Q I r ⟨i, j, e, ⟨h1, by omega⟩, q⟩
theorem rd_divm {H : Hp} {Q : VK} {i j : Int} (h1 : 0 < j) (h2 : j < 1000000000) (q : ∀ p, H p = none → Q (.ref p) (upd H p (.tup [.int (i / j), .int (i % j)]))) : rDivm [.int i, .int j] H Q := ⟨i, j, rfl, h1, h2, q⟩
theorem rd_isiS {K : PySem.W.Frag} {H : Hp} {Q : VK} {z : Str} (q : Q (.bl true) H) : rIsi K [.str z, .ty "str"] H Q := ⟨_, _, _, _, true, rfl, .ty "str", .base (.str z), kit_ty (by decide +kernel), q⟩

theorem scal_int {i : Int} (h : i.natAbs < 2 ^ 250) : scalR (.int i) := Nat.lt_trans (PySem.Flt.log2_lt_of (by decide) h) (by decide)
theorem cut_zero (l : List Nat) (k : Nat) : cutL l none (some (k : Int)) = l.take k := by
  unfold cutL
  rw [HT.sIx_none, HT.sIx_nat, List.drop_zero, Nat.sub_zero]
  rcases Nat.le_total k l.length with h | h
  · rw [Nat.min_eq_left h]
  · rw [Nat.min_eq_right h, List.take_length, List.take_of_length_le h]
theorem mem_reps {n : Nat} {l : List Nat} {c : Nat} (h : c ∈ reps n l) : c ∈ l := by
  unfold reps at h
  rw [List.mem_flatten] at h
  obtain ⟨m, hm, hc⟩ := h
  rw [(List.mem_replicate.mp hm).2] at hc
  exact hc
end Un

namespace Un
open PySem PySem.Spec PyProof.Rows L2
/-! ### rstrip of one sign, startswith, order of texts -/
theorem tail_cut (g : Nat) : ∀ t : List Nat, ∃ p m, t = p ++ List.replicate m g ∧ ∀ c, p.getLast? = some c → c ≠ g := by
  intro t
  induction ht : t.length generalizing t with
  | zero =>
    have : t = [] := List.length_eq_zero_iff.mp ht
    subst this
    exact ⟨[], 0, rfl, fun c h => by cases h⟩
  | succ n ih =>
    have hne : t ≠ [] := by
      rintro rfl
      cases ht
    obtain ⟨q, d, rfl⟩ : ∃ q d, t = q ++ [d] := ⟨t.dropLast, t.getLast hne, (List.dropLast_concat_getLast hne).symm⟩
    by_cases hd : d = g
    · subst hd
      obtain ⟨p, m, e, h⟩ := ih q (by simpa using ht)
      exact ⟨p, m + 1, by rw [e, List.append_assoc, ← List.replicate_succ'], h⟩
    · exact ⟨q ++ [d], 0, by simp, fun c hc => by
        rw [List.getLast?_concat] at hc
        rw [← Option.some.inj hc]
        exact hd⟩
theorem takeWhile_rep (g : Nat) (f : Nat → Bool) (hf : ∀ c, f c = (c == g)) : ∀ (m : Nat) (r : List Nat), (∀ c, r.head? = some c → c ≠ g) → (List.replicate m g ++ r).takeWhile f = List.replicate m g
  | 0, [], _ => rfl
  | 0, c :: r, h => by
    have h1 := h c rfl
    show (c :: r).takeWhile f = []
    rw [List.takeWhile_cons, hf, if_neg (by simpa using h1)]
  | m + 1, r, h => by
    rw [List.replicate_succ, List.cons_append, List.takeWhile_cons, hf, if_pos (by simp), takeWhile_rep g f hf m r h]
theorem rstrip_tx {p : List Nat} {m g : Nat} (h : ∀ c, p.getLast? = some c → c ≠ g) : Txt.rstripChars (tx (p ++ List.replicate m g)) (tx [g]) = tx p := by
  have hlo : stripLo (tx [g]).cps.contains false (tx (p ++ List.replicate m g)) = 0 := rfl
  have hw : ((tx (p ++ List.replicate m g)).cps.toList.drop 0).reverse.takeWhile (tx [g]).cps.contains = List.replicate m g := by
    rw [tx_cps, List.drop_zero, List.reverse_append, List.reverse_replicate]
    refine takeWhile_rep g _ (fun c => ?_) m p.reverse (fun c hc => h c ?_)
    · show (#[g] : Array Nat).contains c = (c == g)
      simp [Array.contains]
    · rw [List.head?_reverse] at hc
      exact hc
  have hhi : stripHi (tx [g]).cps.contains true (tx (p ++ List.replicate m g)) 0 = p.length := by
    unfold stripHi
    rw [if_pos rfl, hw, tx_len, List.length_append, List.length_replicate]
    omega
  unfold Txt.rstripChars Txt.stripBy stripSame
  rw [hlo, hhi, tx_len, List.length_append, List.length_replicate]
  by_cases hm : m = 0
  · subst hm
    simp
  · rw [if_neg (by simp; omega)]
    unfold stripped
    rw [hlo, hhi]
    unfold Builtin.Str.strSub tx
    simp
def rRstX : V → List V → Hp → VK → Prop := fun x xs H Q => ∃ (p : List Nat) (m g : Nat), x = .str (tx (p ++ List.replicate m g)) ∧ xs = [.str (tx [g])] ∧ (∀ c, p.getLast? = some c → c ≠ g) ∧ p.length + m ≤ sizeLine ∧ Q (.str (tx p)) H
section
variable {X : Cx}
theorem mt_rstX : MtR X "str.rstrip" rRstX := by
  intro pins s σ H x xs v us Q I rx rs h
  obtain ⟨p, m, g, rfl, rfl, hp, hz, q⟩ := h
  exact mt_rstripChars pins s σ H _ _ v us Q I rx rs ⟨_, _, rfl, rfl, by rw [tx_len, List.length_append, List.length_replicate]; exact hz, by rw [rstrip_tx hp]; exact q⟩
theorem starts_tx (a b : List Nat) : Txt.startswith (tx a) (tx b) = b.isPrefixOf a := by
  unfold Txt.startswith Builtin.Str.subAt
  rw [tx_len, tx_len, Nat.zero_add, Bool.eq_iff_iff, List.isPrefixOf_iff_prefix, Bool.and_eq_true, decide_eq_true_eq, beq_iff_eq]
  have e : (tx a).cps.extract 0 b.length = (tx b).cps ↔ a.take b.length = b := by
    rw [← Array.toList_inj]
    simp [tx]
  rw [e]
  constructor
  · rintro ⟨h1, h2⟩
    rw [← h2]
    exact List.take_prefix _ _
  · rintro ⟨r, rfl⟩
    simp
def rStartX : V → List V → Hp → VK → Prop := fun x xs H Q => ∃ a b : List Nat, x = .str (tx a) ∧ xs = [.str (tx b)] ∧ Q (.bl (b.isPrefixOf a)) H
theorem mt_startX : MtR X "str.startswith" rStartX := by
  intro pins s σ H x xs v us Q I rx rs h
  obtain ⟨a, b, rfl, rfl, q⟩ := h
  exact mt_startswith pins s σ H _ _ v us Q I rx rs ⟨_, _, rfl, rfl, by rw [starts_tx]; exact q⟩
theorem op_leX : OpR X (compareOp .LtE) rLeX := by
  intro pins s σ H x y v u Q I rx ry h
  obtain ⟨a, b, rfl, rfl, q⟩ := h
  exact op_le_str pins s σ H _ _ v u Q I rx ry ⟨_, _, rfl, rfl, by rw [tx_cps, tx_cps]; exact q⟩
def rIsN1 : R2 := fun x y H Q => y = .non ∧ Q (.bl (decide (x = .non))) H
def rNotN1 : R2 := fun x y H Q => y = .non ∧ Q (.bl (!decide (x = .non))) H
theorem op_isN' : OpR X (compareOp .Is) rIsN1 := op_isN
theorem op_notN' : OpR X (compareOp .IsNot) rNotN1 := op_notN
end
section
variable {K : PySem.W.Frag} {H : Hp} {Q : VK} {x : V}
theorem rd_rstX {p : List Nat} {m g : Nat} (h : ∀ c, p.getLast? = some c → c ≠ g) (hz : p.length + m ≤ sizeLine) (q : Q (.str (tx p)) H) : rRstX (.str (tx (p ++ List.replicate m g))) [.str (tx [g])] H Q := ⟨p, m, g, rfl, rfl, h, hz, q⟩
theorem rd_startX {a b : List Nat} (q : Q (.bl (b.isPrefixOf a)) H) : rStartX (.str (tx a)) [.str (tx b)] H Q := ⟨a, b, rfl, rfl, q⟩
theorem rd_leX {a b : List Nat} (q : Q (.bl (!decide (b < a))) H) : rLeX (.str (tx a)) (.str (tx b)) H Q := ⟨a, b, rfl, rfl, q⟩
theorem rd_isN1 (q : Q (.bl (decide (x = .non))) H) : rIsN1 x .non H Q := ⟨rfl, q⟩
theorem rd_notN1 (q : Q (.bl (!decide (x = .non))) H) : rNotN1 x .non H Q := ⟨rfl, q⟩
theorem rd_eqNilNil {p e : Addr} (h1 : SqL K H p []) (h2 : SqL K H e []) (q : Q (.bl true) H) : rEqD K (.ref p) (.ref e) H Q := ⟨.list [], .list [], .lst h1 .nil, .lst h2 .nil, shaped_ints [], shaped_ints [], by rw [eqv_nil_list]; exact q⟩
theorem rd_neNilNil {p e : Addr} (h1 : SqL K H p []) (h2 : SqL K H e []) (q : Q (.bl false) H) : rNeD K (.ref p) (.ref e) H Q := ⟨.list [], .list [], .lst h1 .nil, .lst h2 .nil, shaped_ints [], shaped_ints [], by rw [eqv_nil_list]; exact q⟩
theorem rd_cat {p q : Addr} {xs ys : List V} (h1 : H p = some (.lst xs)) (h2 : H q = some (.lst ys)) (hz : xs.length + ys.length ≤ sizeLine) (k : ∀ n, H n = none → Q (.ref n) (upd H n (.lst (xs ++ ys)))) : rCat (.ref p) (.ref q) H Q := ⟨p, q, xs, ys, rfl, rfl, h1, h2, hz, k⟩
end
theorem reps_one (n g : Nat) : reps n [g] = List.replicate n g := by
  unfold reps
  induction n with
  | zero => rfl
  | succ n ih => rw [List.replicate_succ, List.flatten_cons, ih]; rfl
theorem atI_m1 {l : List Nat} {c : Nat} (h : l.getLast? = some c) : atI l (-1) = some c := by
  have hne : l ≠ [] := by
    rintro rfl
    cases h
  rw [List.getLast?_eq_getLast hne] at h
  rw [← Option.some.inj h]
  conv => lhs; rw [← List.dropLast_concat_getLast hne]
  exact atI_last _ _
theorem cut_m1 (l : List Nat) (c : Nat) : cutL (l ++ [c]) none (some (-1)) = l := by
  unfold cutL
  have h : HT.sIx (l ++ [c]).length (l ++ [c]).length (some (-1)) = l.length := by
    unfold HT.sIx
    rw [List.length_append]
    simp
    try omega
  rw [HT.sIx_none, h]
  simp
end Un

set_option maxHeartbeats 2000000
/-! UnZip: zip of two texts, the signs in new pairs. -/
namespace Un
open PySem PySem.Spec PyProof.Rows L2
def ItzS (x y : Str) : It :=
  ⟨fun i _ => i < x.cps.size ∧ i < y.cps.size,
    fun i H v H' => ∃ T c d, v = .ref T ∧ H T = none ∧ H' = upd H T (.tup [.str ⟨#[c]⟩, .str ⟨#[d]⟩]) ∧ x.cps[i]? = some c ∧ y.cps[i]? = some d,
    fun i _ => i ≤ x.cps.size ∧ i ≤ y.cps.size ∧ (i = x.cps.size ∨ i = y.cps.size)⟩
theorem turn_zipS {P : Program} {w : World} {K : PySem.W.Frag} {elts : List Expr} {kk : Nat} {tpos : Pos} {z TI TO i1 i2 : Addr} {x y : Str} {t u : Tok} (D : ZipSep2 z TI TO i1 i2 [i1] [i2]) :
    Turn P w K (.Tuple elts kk tpos) (ItzS x y) [z, TI, TO, i1, i2] z (fun i h => IsZip h z TI TO .none ∧ IsTupOf2 h TI (.ref i1) (.ref i2) ∧ (∃ a b, IsTupOf2 h TO a b) ∧ h.IsStrIter i1 (strIterType x) x t i ∧ h.IsStrIter i2 (strIterType y) y u i) where
  mem := by simp
  obj := fun i h st c hc => by
    obtain ⟨hz, hTI, ⟨a, b, hTO⟩, ⟨o1, e1, _, d1⟩, ⟨o2, e2, _, d2⟩⟩ := st
    have e' : c = z ∨ c = TI ∨ c = TO ∨ c = i1 ∨ c = i2 := by simpa using hc
    rcases e' with q | q | q | q | q
    · rw [q]; exact ⟨_, hz, fun v q => nomatch q⟩
    · rw [q]; exact ⟨_, hTI, fun v q => nomatch q⟩
    · rw [q]; exact ⟨_, hTO, fun v q => nomatch q⟩
    · rw [q]; exact ⟨o1, e1, fun v q => by rw [d1] at q; cases q⟩
    · rw [q]; exact ⟨o2, e2, fun v q => by rw [d2] at q; cases q⟩
  keep := fun i h h' st k => by
    obtain ⟨hz, hTI, ⟨a, b, hTO⟩, ⟨o1, e1, r1⟩, ⟨o2, e2, r2⟩⟩ := st
    exact ⟨k z (by simp) _ hz, k TI (by simp) _ hTI, ⟨a, b, k TO (by simp) _ hTO⟩, ⟨o1, k i1 (by simp) o1 e1, r1⟩, ⟨o2, k i2 (by simp) o2 e2, r2⟩⟩
  item := by
    intro X hP hw hK hc i pins s σ H E I hf st hg
    subst hP hw hK
    obtain ⟨hz, hTI, ⟨a, b, hTO⟩, h1, h2⟩ := st
    have hzl : z < s.heap.objs.size := Heap.lt_size hz
    have hd : X.A.in1.handled = none := I.ok.hd hc
    refine wpAny_pyNext_zipD2_item D (Draws.text hd i1 x t) (Draws.text hd i2 y u) hz hTI hTO h1 h2 hg.1 hg.2 fun x1 x2 h' tk p1 p2 z' TO' h1' h2' hT hsz hk => ?_
    obtain ⟨c, tc, hcx, rfl⟩ := p1
    obtain ⟨d, td, hdy, rfl⟩ := p2
    refine ⟨_, rfl, wpAny_letOwnedTupleGo_zip (s := { s with heap := h', toks := tk }) z' fun h'' z'' sb => ?_⟩
    have hT2 : h''.get? s.heap.objs.size = some { cls := .type "tuple", data := .seq #[.str ⟨#[c]⟩ tc, .str ⟨#[d]⟩ td] } := (sb.2 _ (Nat.ne_of_gt hzl)).trans hT
    have new : ObjOk X.prog X.w (upd H s.heap.objs.size (.tup [.str ⟨#[c]⟩, .str ⟨#[d]⟩])) h'' s.heap.objs.size (.tup [.str ⟨#[c]⟩, .str ⟨#[d]⟩]) :=
      ⟨by show 2 ≤ sizeLine; decide, [.str ⟨#[c]⟩ tc, .str ⟨#[d]⟩ td], .cons ⟨tc, rfl⟩ (.cons ⟨td, rfl⟩ .nil), ⟨_, hT2, rfl, _, rfl⟩⟩
    have I1 : Inv X pins σ (upd H s.heap.objs.size (.tup [.str ⟨#[c]⟩, .str ⟨#[d]⟩])) { s with heap := h'', toks := tk } :=
      I.turnedNew (t' := tk) (ch := [z, TI, TO, i1, i2]) (fun c o hb q => (sb.2 c (fun q' => hb (by simp [q']))).trans (hk c o (fun q' => hb (by simp [q'])) (fun q' => hb (by simp [q'])) (fun q' => hb (by simp [q'])) (fun q' => hb (by simp [q'])) q)) hf (Nat.le_refl _) new
    have l1 : i1 < s.heap.objs.size := by obtain ⟨_, e1, _⟩ := h1; exact Heap.lt_size e1
    have l2 : i2 < s.heap.objs.size := by obtain ⟨_, e1, _⟩ := h2; exact Heap.lt_size e1
    refine ⟨.ref s.heap.objs.size, _, I1, rfl, ⟨_, c, d, rfl, I.hok.fresh (Nat.le_refl _), rfl, hcx, hdy⟩, ⟨z'', ?_, ⟨.str ⟨#[c]⟩ tc, .str ⟨#[d]⟩ td, ?_⟩, ?_, ?_⟩, fun c hcm => ?_⟩
    · exact (sb.2 _ D.TIz).trans (hk _ _ D.TIz D.TITO D.TIi1 D.TIi2 hTI)
    · exact (sb.2 _ D.TOz).trans TO'
    · obtain ⟨o, e, r⟩ := h1'
      exact ⟨o, (sb.2 _ D.zi1.symm).trans e, r⟩
    · obtain ⟨o, e, r⟩ := h2'
      exact ⟨o, (sb.2 _ D.zi2.symm).trans e, r⟩
    · have hlt : c < s.heap.objs.size := by
        have e' : c = z ∨ c = TI ∨ c = TO ∨ c = i1 ∨ c = i2 := by simpa using hcm
        rcases e' with q | q | q | q | q
        · rw [q]; exact hzl
        · rw [q]; exact Heap.lt_size hTI
        · rw [q]; exact Heap.lt_size hTO
        · rw [q]; exact l1
        · rw [q]; exact l2
      rw [upd_ne (Nat.ne_of_lt hlt)]
      exact (hf c hcm).1
  done := by
    intro X hP hw hK hc i pins s σ H E I hf st hg
    subst hP hw hK
    obtain ⟨hz, hTI, ⟨a, b, hTO⟩, h1, h2⟩ := st
    have hd : X.A.in1.handled = none := I.ok.hd hc
    exact wpAny_pyNext_zipD2_end D (Draws.text hd i1 x t) (Draws.text hd i2 y u) hz hTI hTO h1 h2 hg.1 hg.2.1 hg.2.2 fun h' tk hk => ⟨rfl, I.turnedL (t' := tk) (ch := [z, TI, TO, i1, i2]) (fun c o hb q =>
      hk c o (fun q' => hb (by simp [q'])) (fun q' => hb (by simp [q'])) (fun q' => hb (by simp [q'])) (fun q' => hb (by simp [q'])) q) hf⟩
  self := fun A i s Q E st h => wpAny_pyIter_zip st.1 h
def iZipS (ta : TA) : TI := fun σ H R => ta σ H fun vs H1 => ∃ x y, vs = [.str x, .str y] ∧ R (ItzS x y) H1
theorem sep5 (n : Addr) : ZipSep2 (n + 4) (n + 2) (n + 3) n (n + 1) [n] [n + 1] where
  TIz := Nat.ne_of_lt (Nat.add_lt_add_left (by decide) n)
  TOz := Nat.ne_of_lt (Nat.add_lt_add_left (by decide) n)
  TITO := Nat.ne_of_lt (Nat.add_lt_add_left (by decide) n)
  TIi1 := Nat.ne_of_gt (Nat.lt_add_of_pos_right (by decide))
  mem1 := List.mem_singleton.mpr rfl
  zf1 := fun h => absurd (List.mem_singleton.mp h) (Nat.ne_of_gt (Nat.lt_add_of_pos_right (by decide)))
  Tf1 := fun h => absurd (List.mem_singleton.mp h) (Nat.ne_of_gt (Nat.lt_add_of_pos_right (by decide)))
  TIi2 := Nat.ne_of_gt (Nat.add_lt_add_left (by decide) n)
  mem2 := List.mem_singleton.mpr rfl
  zf2 := fun h => absurd (List.mem_singleton.mp h) (Nat.ne_of_gt (Nat.add_lt_add_left (by decide) n))
  Tf2 := fun h => absurd (List.mem_singleton.mp h) (Nat.ne_of_gt (Nat.add_lt_add_left (by decide) n))
  sep1_2 := fun h => absurd (List.mem_singleton.mp h) (Nat.ne_of_lt (Nat.lt_add_of_pos_right (by decide)))
  sep2_1 := fun h => absurd (List.mem_singleton.mp h) (Nat.ne_of_gt (Nat.lt_add_of_pos_right (by decide)))
theorem pi_zipS {X : Cx} {e e2 : Expr} {ta : TA} {p pos tpos : Pos} {elts : List Expr} {kk : Nat} (hg : Gl X "zip") (hm : X.mg "zip" = none) (ha : PA X [e, e2] ta)
    (hs : starEach [e, e2] X.env = (false, eval e X.env) :: starEach [e2] X.env := by rfl) (hpl : (backTo pos (starEach [e2] X.env)).any (·.1) = false := by rfl) :
    PI X (.Tuple elts kk tpos) (.Call (.Name "zip" p) [e, e2] [] pos) (iZipS ta) := by
  refine ⟨fun pins s σ H R I h => ?_⟩
  refine Call_ (ld_blt I hg hm PyProof.Rows.boot_zip (PyProof.Rows.callWith_type1 (thn (ha.run pos pins s σ H _ I h) fun us s1 ⟨vs, H1, I1, r1, q1⟩ => ?_) hs hpl))
  obtain ⟨x, y, ex, q⟩ := q1
  subst ex
  cases r1 with
  | cons r rr =>
    cases rr with
    | cons r' rr =>
      cases rr
      obtain ⟨t, rfl⟩ := r
      obtain ⟨u, rfl⟩ := r'
      have fresh5 : ∀ c, c ∈ [s1.heap.objs.size + 4, s1.heap.objs.size + 2, s1.heap.objs.size + 3, s1.heap.objs.size, s1.heap.objs.size + 1] → FpOk X pins H1 c := fun c hcm => by
        have e' : c = s1.heap.objs.size + 4 ∨ c = s1.heap.objs.size + 2 ∨ c = s1.heap.objs.size + 3 ∨ c = s1.heap.objs.size ∨ c = s1.heap.objs.size + 1 := by simpa using hcm
        have hle : s1.heap.objs.size ≤ c := by
          rcases e' with z | z | z | z | z
          · rw [z]; exact Nat.le_add_right _ _
          · rw [z]; exact Nat.le_add_right _ _
          · rw [z]; exact Nat.le_add_right _ _
          · rw [z]; exact Nat.le_refl _
          · rw [z]; exact Nat.le_add_right _ _
        exact I1.fpOk hle (I1.hok.fresh hle)
      refine zip_begins2 (begins_text x t) (begins_text y u) trivial trivial fun h' hz hTI hTO h1 h2 hsz hk => wpAny_pyIter_zip hz ?_
      have I2 : Inv X pins σ H1 { s1 with heap := h' } := I1.kept (t' := s1.toks) hk
      exact ⟨s1.heap.objs.size + 4, [s1.heap.objs.size + 4, s1.heap.objs.size + 2, s1.heap.objs.size + 3, s1.heap.objs.size, s1.heap.objs.size + 1], _, _, H1, rfl, I2,
        turn_zipS (sep5 _), ⟨hz, hTI, ⟨_, _, hTO⟩, ⟨_, h1, rfl, rfl⟩, ⟨_, h2, rfl, rfl⟩⟩, fresh5, q⟩
theorem rd_zipS {x y : Str} {H : Hp} {R : It → Hp → Prop} (q : R (ItzS x y) H) : ∃ x' y', [V.str x, V.str y] = [.str x', .str y'] ∧ R (ItzS x' y') H := ⟨x, y, rfl, q⟩
end Un

/-! Defs whose promise is kept where no guard of a repr stands around the call: the same three steps as for a plain def (entry, body, call), each with one premise more. -/
namespace Un
open PySem PySem.Spec PyProof.Rows L2
structure FnG (P : Program) (w : World) (K : PySem.W.Frag) (mg : Str → Option Value) (base : Heap) (k : Nat) (f : Addr) (fd : FuncData) (ps : List Str) (sp : Sp) : Prop where
  len : ∀ vs H Q E, sp vs H Q E → vs.length = ps.length
  run : ∀ (A : Around) (outer : List Env) (s : Shared) (H : Hp) (args : Args) (us : List Value) (vs : List V) (Q : VK) (E : XK), A.guards = some [] → Room k A → Env0 P w K mg base A outer s H → BindsTo s fd args (ps.zip us) →
    Vals vs us → sp vs H Q E → codeAny (model P w) A (.call (.ref f) args) (CR CX0 outer P w H s Q E) s
section
variable {P : Program} {w : World} {K : PySem.W.Frag} {mg : Str → Option Value} {base : Heap}
theorem okG {nm qual : Str} {st : Stmt} {f : Addr} {fd : FuncData} {N ps : List Str} {k : Nat} {sp : Sp} (F : Fun K nm qual st f fd) (S : FnScope N ps (defScope st)) (hlen : ∀ vs H Q E, sp vs H Q E → vs.length = ps.length)
    (hb : ∀ (cdv : Value) (A : Around) (outer : List Env) (s : Shared) (H : Hp) (vs : List V) (Q : VK) (E : XK), A.guards = some [] → Room k (A.deeper (envOfC qual (defScope st) s.heap.objs.size f cdv)) → sp vs H Q E →
      ∃ t, PSs (cxOf CX0 P w K mg base N qual (defScope st) f cdv A outer s H E).nox (defBody st) t ∧ t { nx := fun _ H' => Q .non H', rt := Q } (start N vs) H) : FnG P w K mg base (k + 1) f fd ps sp := by
  obtain ⟨c1, c2, c3, c4, c5, c6, cdv, c7, c8, rfl, look, code⟩ := F.ex
  constructor
  · exact hlen
  · intro A outer s H args us vs Q E gA room e0 bd rel asked
    have same := hlen _ _ _ _ asked
    have inHeap : K.In s.heap := e0.mod.kin.keeps fun b o hbo => (e0.bs b o hbo).1
    have free := e0.mod.nolimit.keeps (h' := s.heap) fun b o hbo => (e0.bs b o hbo).1
    have kinds : ∀ y ∈ ps.zip us, (defScope st).names.lookup y.1 = some .local ∨ ((defScope st).names.lookup y.1 = some .cell ∧ ((cellsFrom (s.heap.objs.size + 1) (defScope st).names []).lookup y.1).isSome = true) := by
      rintro ⟨n, v⟩ hy
      exact (S.par n (List.of_mem_zip hy).1).imp id fun hc => ⟨hc, PySem.W.cellsFrom_some _ _ _ (.inl hc)⟩
    refine codeAny_call_function room.depth (inHeap _ _ look) rfl S.co S.gen rfl (PySem.W.codeRec_of inHeap code) (bd _ _ _ _ ?_)
    refine wpAny_newFunctionEnv_cells S.kind kinds fun env henv s1 entry => ?_
    subst henv
    obtain ⟨t, ht, hq⟩ := hb cdv A outer s H vs Q E gA (room.deeper _) asked
    have I0 : Inv (cxOf CX0 P w K mg base N qual (defScope st) f cdv A outer s H E) [] (start N vs) H s1 := inv_start S room.hd e0 same rel entry
    refine ⟨free.keeps entry.toInCall.keep, codeAny_func (wpAny_mono (ht.nox.run [] s1 (start N vs) H _ I0 hq) (fun flow s' hs => ?_) fun e s' hs => hs)⟩
    cases flow with
    | ret u => exact match hs with | ⟨v, σ', H', J, rv, q⟩ => ⟨v, H', J.os, J.bare, J.base, J.hok, rv, q⟩
    | next => exact match hs with | ⟨σ', H', J, q⟩ => ⟨V.non, H', J.os, J.bare, J.base, J.hok, rfl, q⟩
    | brk => exact match hs with | ⟨_, _, _, q⟩ => False.elim q
    | cont => exact match hs with | ⟨_, _, _, q⟩ => False.elim q
/-- a def under its name, of that kind -/
def ClG (P : Program) (w : World) (K : PySem.W.Frag) (mg : Str → Option Value) (base : Heap) (nm : Str) (ps : List Str) (k : Nat) (sp : Sp) : Prop :=
  ∃ (f : Addr) (fd : FuncData), mg nm = some (.ref f) ∧ FnG P w K mg base k f fd ps sp ∧ PySem.W.keepIn K (.ref f) = true ∧ Binds K fd ps []
theorem clG_of {nm : Str} {st : Stmt} {ps : List Str} {k : Nat} {sp : Sp} (a : At K mg nm st ps) (h : ∀ f fd, Fun K nm nm st f fd → FnG P w K mg base k f fd ps sp) : ClG P w K mg base nm ps k sp := by
  obtain ⟨f, fd, F, m, b⟩ := a
  exact ⟨f, fd, m, h f fd F, F.kp, b⟩
end
section
variable {X : Cx} {nm : Str} {ps : List Str} {k : Nat} {sp : Sp} {e : Expr} {es : List Expr} {t : TA} {p pos : Pos}
theorem pe_clG (c : ClG X.prog X.w X.K X.mg X.base nm ps k sp) (hgd : X.A.guards = some []) (hr : Room k X.A) (hg : Gl X nm) (ha : PA X (e :: es) t)
    (hdb : (nm == ("__debug__" : Str)) = false := by decide) (he : starEach (e :: es) X.env = (false, eval e X.env) :: starEach es X.env := by rfl) (hpl : (backTo pos (starEach es X.env)).any (·.1) = false := by rfl) :
    PE X (.Call (.Name nm p) (e :: es) [] pos) (tCall sp [] E0 t) := by
  obtain ⟨f, fd, m, F, kp, b⟩ := c
  constructor
  intro pins s σ H Q I h
  refine wpAny_Call_Name_kw (ld_glob I hg m (PySem.W.callWith_K (h₀ := X.base) I.ok.mod.kin kp (thn (ha.run pos pins s σ H _ I h) fun us s1 hx => ?_) he hpl) hdb)
  obtain ⟨vs, H1, I1, r, q⟩ := hx
  refine ⟨I1.kIn, ?_⟩
  rw [List.append_nil] at q
  have n1 : us.length = ps.length := by
    rw [← r.length]
    exact F.len _ _ _ _ q
  have bd := b s1 us I1.kIn (by rw [List.append_nil]; exact n1)
  rw [List.append_nil] at bd
  refine wpAny_call (codeAny_mono (F.run X.A X.stack s1 H1 ⟨us, []⟩ us vs Q E0 hgd hr I1.env0 bd r q) fun res s' hres => ?_)
  match res, hres with
  | .error e, hres => exact (show False from hres).elim
  | .ok (.ret u), hres => exact I1.after hres
  | .ok .next, hres => exact (show False from hres).elim
  | .ok .brk, hres => exact (show False from hres).elim
  | .ok .cont, hres => exact (show False from hres).elim
end
/-! ### repr of data -/
def rReprD (K : PySem.W.Frag) : List V → Hp → VK → Prop := fun xs H Q => ∃ (a : Addr) (d : PyData), xs = [.ref a] ∧ Dp K H (.ref a) d ∧ d.showable = true ∧ d.hasDict = false ∧ d.depth ≤ 60 ∧ d.shown.length ≤ sizeLine ∧ Q (.str d.shown) H
theorem call_reprD {X : Cx} {k : Nat} (hgd : X.A.guards = some []) (hr : Room k X.A) : CallR X (.builtin "repr") (rReprD X.K) := by
  intro pins s σ H xs us Q I r h
  obtain ⟨a, d, rfl, hd, hs, hn, hz, hl, q⟩ := h
  obtain ⟨u, rfl, rx⟩ := vals1 r
  obtain ⟨as, rd⟩ := Dp.reads I d _ u hd rx
  cases rx
  have hu := hr.units
  refine repr_of_reads' rd hs (PyData.noDict_hsm hn) hgd (by omega) (fun _ _ e => e) (fun h' u tk hk => ?_) hl
  exact ⟨.str d.shown, H, I.kept (t' := tk) hk, ⟨u, rfl⟩, q⟩

/-! ### the end of a law whose def is of that kind -/
theorem runG {P : Program} {w : World} {K : PySem.W.Frag} {mg mb : Str → Option Value} {k : Nat} {fa a : Addr} {fd : FuncData} {x : Str} {sp : Sp} {s₁ : Shared} {vs : List Value} {ns : List Int}
    (KX : K.In s₁.heap) (hns : s₁.heap.Ns mainGlobals mg) (hb : s₁.heap.Ns builtinsNs mb) (hbb : ∀ x : Str, x ≠ "__name__" → mb x = bootBuiltins x) (hlim : s₁.heap.NoLimit) (hg : s₁.gens = #[])
    (ha : s₁.heap.get? a = some { cls := .type "list", data := .seq vs.toArray }) (hi : IntsAre vs ns) (hl : ns.length ≤ sizeLine) (room : Room k callerA)
    (F : ∀ base : Heap, K.In base → base.Ns mainGlobals mg → FnG P w K mg base k fa fd [x] sp) (bind1 : ∀ (s : Shared) (u : Value), BindsTo s fd ⟨[u], []⟩ [(x, u)])
    (told : ∀ H : Hp, Only H → SqL K H a (ns.map V.int) → sp [.ref a] H (fun v _ => v = .bl true) fun _ _ _ => False) :
    codeAny (model P w) callerA (.call (.ref fa) ⟨[.ref a], []⟩) (fun r s' => r = .ok (.ret (.bool true)) ∧ OldK s₁.heap s'.heap ∧ s'.os = s₁.os ∧ AllBare s'.gens) s₁ := by
  have relV := vals_ints hi
  have sizes := hi.length
  suffices from_ : ∀ H : Hp, (∀ b u, H b = some u → b = a ∧ K.lookup a = none ∧ u = .frz { cls := .type "list", data := .seq vs.toArray } (.lst (ns.map V.int))) → SqL K H a (ns.map V.int) →
      codeAny (model P w) callerA (.call (.ref fa) ⟨[.ref a], []⟩) (fun r s' => r = .ok (.ret (.bool true)) ∧ OldK s₁.heap s'.heap ∧ s'.os = s₁.os ∧ AllBare s'.gens) s₁ by
    cases look : K.lookup a with
    | some o =>
      have there := KX a o look
      rw [ha] at there
      obtain rfl := Option.some.inj there
      exact from_ (fun _ => none) (fun b u z => by cases z) (.inr ⟨_, vs.toArray, _, look, rfl, rfl, rfl, by rw [List.size_toArray, sizes]; exact hl, by simpa using relV⟩)
    | none =>
      refine from_ (fun b => if b = a then some (.frz { cls := .type "list", data := .seq vs.toArray } (.lst (ns.map V.int))) else none) (fun b u z => ?_) (.inl (.inr ⟨_, if_pos rfl⟩))
      by_cases e : b = a
      · rw [if_pos e] at z
        exact ⟨e, look, (Option.some.inj z).symm⟩
      · rw [if_neg e] at z
        cases z
  intro H hH hS
  have only1 : Only H := fun b => by
    cases z : H b with
    | none => exact .inl rfl
    | some u => exact .inr ⟨_, _, by rw [(hH b u z).2.2]⟩
  have held : HOk P w H s₁.heap := fun b u z => by
    obtain ⟨rfl, _, rfl⟩ := hH b u z
    exact ⟨ha, by rw [List.length_map]; exact hl, vs, _, relV, ha⟩
  have not_dict : ∀ {b : Addr} {o : Obj} {es : Array DictEntry} {ep : Nat}, s₁.heap.get? b = some o → o.data = .dict es ep → H b = none := fun {b o es ep} e d => by
    cases z : H b with
    | none => rfl
    | some u =>
      obtain ⟨rfl, _, _⟩ := hH b u z
      rw [ha] at e
      obtain rfl := Option.some.inj e
      cases (show Data.seq vs.toArray _ = Data.dict es ep from d)
  have hidden : ∀ {b : Addr} {m : Str → Option Value}, s₁.heap.Ns b m → (hidT s₁.heap H).Ns b m := by
    rintro b m ⟨o, es, ep, e, d, r⟩
    exact ⟨o, es, ep, hidT_get e (not_dict e d), d, r⟩
  have kIn : K.In (hidT s₁.heap H) := fun b o e => hidT_get (KX b o e) (by
    cases z : H b with
    | none => rfl
    | some u =>
      obtain ⟨rfl, n, _⟩ := hH b u z
      rw [n] at e
      cases e)
  have md : Mod K mg (hidT s₁.heap H) := ⟨kIn, hidden hns, ⟨mb, hidden hb, hbb⟩, match hlim with | ⟨mc, h1, h2⟩ => ⟨mc, hidden h1, h2⟩⟩
  have none_in : ∀ b : Addr, b ∈ ([] : List Addr) → False := fun b hb => by cases hb
  have env0 : Env0 P w K mg (hidT s₁.heap H) callerA [] s₁ H := ⟨rfl, md, fun b o e => of_hidT e, Nat.le_of_eq (hidT_size _ _), trivial, fun b hb => (none_in b hb).elim, held, .of_eq hg⟩
  refine codeAny_mono ((F _ kIn (hidden hns)).run callerA [] s₁ H ⟨[.ref a], []⟩ [.ref a] [.ref a] _ _ rfl room env0 (bind1 s₁ (.ref a)) (.cons rfl .nil) (told H only1 hS)) fun r s' h => ?_
  match r, h with
  | .error e, h => exact (show False from h).elim
  | .ok .next, h => exact (show False from h).elim
  | .ok .brk, h => exact (show False from h).elim
  | .ok .cont, h => exact (show False from h).elim
  | .ok (.ret u), h =>
    obtain ⟨v, H', hos, hbare, un, held', rv, rfl⟩ := h
    obtain rfl : u = Value.bool true := rv
    refine ⟨rfl, OldK.of_keep fun b o e => ?_, hos, hbare⟩
    cases z : H b with
    | none => exact un.keep b o e z (none_in b) (none_in b)
    | some y =>
      obtain ⟨rfl, _, rfl⟩ := hH b y z
      have e1 := (held _ _ z).1
      rw [e] at e1
      rw [Option.some.inj e1]
      exact (held' _ _ (un.frzs _ _ _ z)).1
theorem walk_ofG {l : PySem.W.OpenLaw} {n k : Nat} {q : Program} {loose : List Str} {XP : (Str → Option Value) → Heap → Prop} {YP : World → Heap → Prop} {d : DefRec} {K : Params → PySem.W.Frag} {sp : World → Sp} {x : Str}
    (hn : l.most = some n) (hn2 : n ≤ sizeLine) (hdf : d.params.defaults = []) (room : Room k callerA) (hY : ∀ (w : World) (h : Heap), YP w h → (K w.params).In h)
    (F : ∀ (w : World) (mg : Str → Option Value) (fa : Addr) (h : Heap), (K w.params).In h → h.Ns mainGlobals mg → mg d.name = some (.ref fa) →
      ∃ fd : FuncData, (∀ (s : Shared) (u : Value), BindsTo s fd ⟨[u], []⟩ [(x, u)]) ∧ ∀ base : Heap, (K w.params).In base → base.Ns mainGlobals mg → FnG l.prog w (K w.params) mg base k fa fd [x] (sp w))
    (told : ∀ (w : World) (H : Hp) (a : Addr) (ns : List Int), ns.length ≤ n → Only H → SqL (K w.params) H a (ns.map V.int) → sp w [.ref a] H (fun v _ => v = .bl true) fun _ _ _ => False) :
    PySem.W.WalkO q loose XP YP l.row.toRowW d [] (fun f vs => PySem.call f vs) := by
  refine Att.attach_callB hn hdf fun w s₀ s₁ mg mb fa o pm cd doc a vs ns G Y ho hd hcd hmg hobj hints hlen _ hg => ?_
  obtain ⟨fd, bnd, hF⟩ := F w mg fa _ (hY w _ Y) G.T.g hmg
  exact runG (hY w _ Y) G.T.g G.T.b G.T.builtins G.T.nolimit hg hobj hints (Nat.le_trans hlen hn2) room hF bnd fun H => told w H a ns hlen
end Un

namespace Un
open PySem PySem.Spec PyProof.Rows L2
/-! ### for i, c in enumerate(text) -/
def ItEX (x : Str) : It := ⟨fun i _ => i < x.cps.size, fun i H v H' => ∃ (T : Addr) (c : Nat), v = .ref T ∧ H T = none ∧ x.cps[i]? = some c ∧ H' = upd H T (.tup [.int (i : Nat), .str ⟨#[c]⟩]), fun i _ => i = x.cps.size⟩
theorem turn_enumX {P : Program} {w : World} {K : PySem.W.Frag} {elts : List Expr} {kk : Nat} {tpos : Pos} (x : Str) (t : Tok) (e it : Addr) :
    Turn P w K (.Tuple elts kk tpos) (ItEX x) [e, it] e (fun i h => (∃ old, IsEnum h e it ((i : Nat) : Int) old) ∧ h.IsStrIter it (strIterType x) x t i ∧ e ≠ it) where
  mem := List.mem_cons_self
  obj := by
    rintro i h ⟨⟨old, he⟩, ⟨o, ho, hc, hd⟩, _⟩ b hb
    rcases List.mem_cons.mp hb with rfl | hb
    · exact ⟨_, he, fun v q => nomatch q⟩
    · obtain rfl := List.mem_singleton.mp hb
      exact ⟨o, ho, fun v q => by rw [hd] at q; cases q⟩
  keep := by
    rintro i h h' ⟨⟨old, he⟩, ⟨o, ho, r⟩, hne⟩ k
    exact ⟨⟨old, k e (by simp) _ he⟩, ⟨o, k it (by simp) o ho, r⟩, hne⟩
  item := by
    rintro X rfl rfl rfl hc i pins s σ H E I hf ⟨⟨old, he⟩, hit, hne⟩ hlt
    have he0 : e < s.heap.objs.size := Heap.lt_size he
    have hi0 : it < s.heap.objs.size := by
      obtain ⟨_, q, _⟩ := hit
      exact Heap.lt_size q
    refine wpAny_pyNext_enum_itemD (Draws.text (A := X.A.in1) (I.ok.hd hc) it x t) he hit hlt hne (by simp [hne]) fun v h' tk hv ho hit' hT hsz hk => ?_
    obtain ⟨c, u, hcx, rfl⟩ := hv
    refine ⟨_, rfl, wpAny_letOwnedTupleGo_enum (s := { s with heap := h', toks := tk + 1 }) ho fun h'' he' sb => ?_⟩
    have made : h''.get? s.heap.objs.size = some { cls := .type "tuple", data := .seq #[.int i tk, .str ⟨#[c]⟩ u] } := (sb.2 _ (Nat.ne_of_gt he0)).trans hT
    have new : ObjOk X.prog X.w (upd H s.heap.objs.size (.tup [.int (i : Nat), .str ⟨#[c]⟩])) h'' s.heap.objs.size (.tup [.int (i : Nat), .str ⟨#[c]⟩]) :=
      ⟨by show 2 ≤ sizeLine; decide, [.int i tk, .str ⟨#[c]⟩ u], .cons ⟨_, rfl⟩ (.cons ⟨_, rfl⟩ .nil), ⟨_, made, rfl, _, rfl⟩⟩
    have kept : ∀ b o, b ∉ [e, it] → s.heap.get? b = some o → h''.get? b = some o := fun b o hb q => by
      have h1 : b ≠ e := fun z => hb (by simp [z])
      have h2 : b ≠ it := fun z => hb (by simp [z])
      exact (sb.2 b h1).trans (hk b o h1 h2 q)
    refine ⟨.ref s.heap.objs.size, _, I.turnedNew (ch := [e, it]) kept hf (Nat.le_refl _) new, rfl, ⟨_, c, rfl, I.hok.fresh (Nat.le_refl _), hcx, rfl⟩, ⟨⟨.str ⟨#[c]⟩ u, ?_⟩, ?_, hne⟩, fun b hb => ?_⟩
    · have e1 : ((i + 1 : Nat) : Int) = (i : Int) + 1 := by omega
      rw [e1]
      exact he'
    · obtain ⟨o, q, r⟩ := hit'
      exact ⟨o, (sb.2 it (Ne.symm hne)).trans q, r⟩
    · have hb' : b < s.heap.objs.size := by
        rcases List.mem_cons.mp hb with rfl | hb
        · exact he0
        · rw [List.mem_singleton.mp hb]
          exact hi0
      rw [upd_ne (Nat.ne_of_lt hb')]
      exact (hf b hb).1
  done := by
    rintro X rfl rfl rfl hc i pins s σ H E I hf ⟨⟨old, he⟩, hit, hne⟩ hge
    obtain ⟨f0, f1, f2, f3, f4, f5⟩ := hf it (by simp)
    obtain rfl : i = x.cps.size := hge
    exact wpAny_pyNext_enum_endD (Draws.text (A := X.A.in1) (I.ok.hd hc) it x t) he hit fun h' eb => ⟨rfl, I.turned (t' := s.toks) (fun b o hb q => eb b o hb q) f0 f1 f3 f4 f5⟩
  self := fun A i s Q E st h => by
    obtain ⟨⟨_, he⟩, _⟩ := st
    exact wpAny_pyIter_enum he h

def iEnumX (ta : TA) : TI := fun σ H R => ta σ H fun vs H1 => ∃ l : List Nat, vs = [.str (tx l)] ∧ R (ItEX (tx l)) H1
theorem pi_enumX {X : Cx} {e : Expr} {ta : TA} {p pos tpos : Pos} {elts : List Expr} {kk : Nat} (hg : Gl X "enumerate") (hm : X.mg "enumerate" = none) (ha : PA X [e] ta) (hs : starEach [e] X.env = [(false, eval e X.env)] := by rfl) :
    PI X (.Tuple elts kk tpos) (.Call (.Name "enumerate" p) [e] [] pos) (iEnumX ta) := by
  constructor
  intro pins s σ H R I h
  refine Call_ (ld_blt I hg hm boot_enumerate (PyProof.Rows.callWith_type1 (thn (ha.run pos pins s σ H _ I h) fun us s1 hx => ?_) hs rfl))
  obtain ⟨vs, H1, I1, r1, l, rfl, q⟩ := hx
  obtain ⟨u, rfl, t, rfl⟩ := vals1 r1
  refine call_enumerate_str fun h' he hit hsz hk => wpAny_pyIter_enum he ?_
  have I2 : Inv X pins σ H1 { s1 with heap := h' } := I1.kept (t' := s1.toks) hk
  refine ⟨s1.heap.objs.size + 1, [s1.heap.objs.size + 1, s1.heap.objs.size], _, _, H1, rfl, I2, turn_enumX (tx l) t (s1.heap.objs.size + 1) s1.heap.objs.size, ⟨⟨.none, he⟩, hit, Nat.succ_ne_self _⟩, fun b hb => ?_, q⟩
  have hle : s1.heap.objs.size ≤ b := by
    rcases List.mem_cons.mp hb with rfl | hb
    · exact Nat.le_add_right _ _
    · exact Nat.le_of_eq (List.mem_singleton.mp hb).symm
  exact I1.fpOk hle (I1.hok.fresh hle)
theorem rd_iEnumX {ta : TA} {σ : L2.St} {H : Hp} {R : It → Hp → Prop} {l : List Nat} (h : ta σ H fun vs H1 => ∃ l : List Nat, vs = [.str (tx l)] ∧ R (ItEX (tx l)) H1) : iEnumX ta σ H R := h
theorem for_enumX {l : List Nat} {g : TG} {tb : TS} {D : Ends} {σ : L2.St} {H : Hp} (Pv : Nat → L2.St → Hp → Prop) (h0 : Pv 0 σ H)
    (hs : ∀ (i c : Nat) (σ : L2.St) (H : Hp) (T : Addr), l[i]? = some c → Pv i σ H → H T = none → g (.ref T) σ (upd H T (.tup [.int (i : Nat), .str (tx [c])])) fun σ2 H2 => tb { D with nx := Pv (i + 1), ct := Pv (i + 1), bk := D.nx } σ2 H2) (hd : ∀ σ H, Pv l.length σ H → D.nx σ H) :
    ∃ W : Nat → Nat → L2.St → Hp → Prop, (∃ m, W 0 m σ H) ∧ ∀ i m σ H, W i m σ H →
      ((ItEX (tx l)).stop i H ∧ D.nx σ H) ∨ ((ItEX (tx l)).go i H ∧ ∃ N : L2.St → Hp → Prop, (∀ σ' H', N σ' H' → ∃ m', m' < m ∧ W (i + 1) m' σ' H') ∧ ∀ x H', (ItEX (tx l)).yld i H x H' → g x σ H' fun σ2 H2 => tb { D with nx := N, ct := N, bk := D.nx } σ2 H2) := by
  have hsz : (tx l).cps.size = l.length := by simp [tx]
  refine ⟨fun i m σ H => m + i = l.length ∧ Pv i σ H, ⟨l.length, rfl, h0⟩, fun i m σ H h => ?_⟩
  obtain ⟨hm, p⟩ := h
  by_cases hi : i < l.length
  · refine .inr ⟨show i < (tx l).cps.size by rw [hsz]; exact hi, Pv (i + 1), fun σ' H' p' => ⟨m - 1, by omega, by omega, p'⟩, fun x H' hy => ?_⟩
    obtain ⟨T, c, rfl, hT, hc, rfl⟩ := hy
    exact hs i c σ H T (by simpa [tx] using hc) p hT
  · have e : i = l.length := by omega
    subst e
    exact .inl ⟨show l.length = (tx l).cps.size from hsz.symm, hd σ H p⟩
/-! ### x.find(y, 1): the first place -/
theorem occ_stay (s sub : Str) (hi : Nat) : ∀ (l : List Nat) (k f : Nat), (forIn l ((#[k] : Array Nat), f) (PySem.StrLaws.occBody s sub hi 1)).run.fst = #[k]
  | [], k, f => rfl
  | a :: l, k, f => by
    rw [List.forIn_cons]
    unfold PySem.StrLaws.occBody
    rw [if_neg (by simp)]
    exact occ_stay s sub hi l k f
theorem occ_find (s sub : Str) (hi : Nat) : ∀ (l : List Nat) (f : Nat), (∀ i ∈ l, f ≤ i) →
    (forIn l ((#[] : Array Nat), f) (PySem.StrLaws.occBody s sub hi 1)).run.fst.toList = (l.find? fun i => decide (i + sub.length ≤ hi) && Builtin.Str.subAt s sub i).toList
  | [], f, _ => rfl
  | a :: l, f, hf => by
    rw [List.forIn_cons, List.find?_cons]
    have ha : f ≤ a := hf a List.mem_cons_self
    have hl : ∀ i ∈ l, f ≤ i := fun i h => hf i (List.mem_cons_of_mem _ h)
    unfold PySem.StrLaws.occBody
    cases hc : (decide (a + sub.length ≤ hi) && Builtin.Str.subAt s sub a) with
    | true =>
      rw [Bool.and_eq_true, decide_eq_true_eq] at hc
      rw [if_pos ⟨⟨⟨by simp, ha⟩, hc.1⟩, hc.2⟩]
      have := occ_stay s sub hi l a (a + sub.length)
      show (forIn l ((#[] : Array Nat).push a, a + sub.length) (PySem.StrLaws.occBody s sub hi 1)).run.fst.toList = _
      have e : (#[] : Array Nat).push a = #[a] := rfl
      rw [e, this]
      rfl
    | false =>
      have hn : ¬ (((((#[] : Array Nat), f).fst.size < 1 ∧ ((#[] : Array Nat), f).snd ≤ a) ∧ a + sub.length ≤ hi) ∧ Builtin.Str.subAt s sub a = true) := fun h => by
        rw [decide_eq_true h.1.2, h.2] at hc
        cases hc
      rw [if_neg hn]
      exact occ_find s sub hi l f hl
theorem subAt_tx (x y : List Nat) (i : Nat) : Builtin.Str.subAt (tx x) (tx y) i = decide ((x.drop i).take y.length = y) := by
  unfold Builtin.Str.subAt
  rw [Bool.eq_iff_iff, beq_iff_eq, decide_eq_true_eq, ← Array.toList_inj, tx_len]
  simp [tx, List.extract_eq_take_drop]
def rFind1 : V → List V → Hp → VK → Prop := fun v xs H Q => ∃ (x y : List Nat) (k : Nat), v = .str (tx x) ∧ xs = [.str (tx y), .int 1] ∧ 1 ≤ k ∧ k + y.length ≤ x.length ∧ k ≤ x.length ∧ (x.drop k).take y.length = y ∧
  (∀ j, 1 ≤ j → j < k → (x.drop j).take y.length ≠ y) ∧ Q (.int (k : Nat)) H
theorem mt_find1 {X : Cx} : MtR X "str.find" rFind1 := by
  intro pins s σ H v xs u us Q I rx rs h
  obtain ⟨x, y, k, rfl, rfl, h1, h2, h3, h4, h5, q⟩ := h
  refine mt_find3 pins s σ H _ _ u us Q I rx rs ⟨tx x, tx y, 1, rfl, rfl, ?_⟩
  have e : Txt.find3 (tx x) (tx y) 1 = ((k : Nat) : Int) := by
    unfold Txt.find3
    have hlo : fromIndex (tx x).length 1 = 1 := rfl
    rw [hlo, PySem.StrLaws.occ_eq, occ_find _ _ _ _ _ (fun i hi => (List.mem_range'_1.mp hi).1)]
    have hf : (List.range' 1 ((tx x).length + 1 - 1)).find? (fun i => decide (i + (tx y).length ≤ (tx x).length) && Builtin.Str.subAt (tx x) (tx y) i) = some k := by
      rw [List.find?_range'_eq_some]
      rw [tx_len, tx_len]
      refine ⟨?_, ?_, ?_⟩
      · rw [subAt_tx, decide_eq_true h2, decide_eq_true h4]
        rfl
      · rw [List.mem_range'_1]
        omega
      · intro j hj1 hj2
        rw [subAt_tx, decide_eq_false (h5 j hj1 hj2), Bool.and_false]
        rfl
    rw [hf]
    rfl
  rw [e]
  exact q

def rMaxX : List V → Hp → VK → Prop := fun xs H Q => ∃ i j, xs = [.int i, .int j] ∧ Q (.int (if j > i then j else i)) H
theorem call_max2X {X : Cx} (hc : X.calm = true) : CallR X (.builtin "max") rMaxX := call_max2 hc
theorem rd_maxX {H : Hp} {Q : VK} {i j : Int} (q : Q (.int (if j > i then j else i)) H) : rMaxX [.int i, .int j] H Q := ⟨i, j, rfl, q⟩
theorem rd_find1 {H : Hp} {Q : VK} {x y : List Nat} {k : Nat} (h1 : 1 ≤ k) (h2 : k + y.length ≤ x.length) (h3 : (x.drop k).take y.length = y) (h4 : ∀ j, 1 ≤ j → j < k → (x.drop j).take y.length ≠ y) (q : Q (.int (k : Nat)) H) : rFind1 (.str (tx x)) [.str (tx y), .int 1] H Q :=
  ⟨x, y, k, rfl, rfl, h1, h2, by omega, h3, h4, q⟩
theorem rd_reprD {K : PySem.W.Frag} {H : Hp} {Q : VK} {a : Addr} {d : PyData} (h : Dp K H (.ref a) d) (hs : d.showable = true) (hn : d.hasDict = false) (hz : d.depth ≤ 60) (hl : d.shown.length ≤ sizeLine) (q : Q (.str d.shown) H) : rReprD K [.ref a] H Q := ⟨a, d, rfl, h, hs, hn, hz, hl, q⟩
/-! ### how long a shown pair is -/
theorem str_app_len (a b : Str) : (a ++ b).length = a.length + b.length := by
  show (a.cps ++ b.cps).size = _
  rw [Array.size_append]
  rfl
theorem tup2_len (a b : PyData) : (PyData.tuple [a, b]).shown.length ≤ a.shown.length + b.shown.length + 8 := by
  have e : (PyData.tuple [a, b]).shown = ("(" : Str) ++ (a.shown ++ (", " : Str) ++ b.shown) ++ (")" : Str) := by
    simp only [PyData.shown, PyData.shownAll]
    rfl
  have e1 : ("(" : Str).length = 1 := by decide
  have e2 : (", " : Str).length = 2 := by decide
  have e3 : (")" : Str).length = 1 := by decide
  rw [e, str_app_len, str_app_len, str_app_len, str_app_len, e1, e2, e3]
  omega
theorem shown_int_len {i : Int} (h : i.natAbs < 2 ^ 250) : (PyData.int i).shown.length ≤ 1000 := by
  have h1 : i.natAbs.log2 < 250 := PySem.Flt.log2_lt_of (by decide) h
  have h2 := PySem.int_text_length_le (a := i) (k := 250) (by decide) h1
  simp only [PyData.shown]
  show (Str.ofString (toString i)).length ≤ 1000
  rw [PySem.ofString_length]
  omega
theorem shown_str_len {l : List Nat} (h : ∀ c ∈ l, c < 1000) : (PyData.str (tx l)).shown.length ≤ 10 * l.length + 2 := by
  simp only [PyData.shown]
  have := PySem.StrLaws.reprText_len (tx l) (fun c hc => by
    rw [tx_cps] at hc
    have := h c hc
    have e : (1000 : Nat) < 16 ^ 8 := by decide
    omega)
  rw [tx_len] at this
  exact this
end Un

set_option maxHeartbeats 2000000
/-! UnY: own errors as the law uses them: by name, made, read, told apart; zip in a comprehension; repr of any value. -/
namespace Un
open PySem PySem.Spec PyProof.Rows L2
/-- the address of the class of a name -/
def ca (mg : Str → Option Value) (x : Str) : Addr := match mg x with
  | some (.ref C) => C
  | _ => 0
theorem ca_of {mg : Str → Option Value} {x : Str} {C : Addr} (h : mg x = some (.ref C)) : ca mg x = C := by
  unfold ca
  rw [h]
/-- an own error without an __init__, its class at C -/
def Err0 (K : PySem.W.Frag) (mg : Str → Option Value) (x : Str) (C : Addr) : Prop := mg x = some (.ref C) ∧ OxC K C ∧ PySem.W.excIn K C PySem.HandSPX.veTail "ValueError.__new__" = true
/-- one with an __init__ of one field -/
def ErrI (K : PySem.W.Frag) (mg : Str → Option Value) (x q f : Str) (st : Stmt) (C : Addr) : Prop := mg x = some (.ref C) ∧ OxC K C ∧ PySem.W.findIn K (.ref C) f = some none ∧
  ∃ (fI : Addr) (fd : FuncData), PySem.W.findIn K (.ref C) "__init__" = some (some (.ref fI)) ∧ PySem.W.typeIn K (.ref fI) = some (.type "function") ∧ Fun K "__init__" q st fI fd ∧ Binds K fd ["self", f] []
def Mk (P : Program) (w : World) (K : PySem.W.Frag) (mg : Str → Option Value) (base : Heap) (x f : Str) (C : Addr) : Prop := mg x = some (.ref C) ∧ OxC K C ∧ PySem.W.findIn K (.ref C) f = some none ∧
  ∃ (fI : Addr) (fd : FuncData), PySem.W.findIn K (.ref C) "__init__" = some (some (.ref fI)) ∧ PySem.W.typeIn K (.ref fI) = some (.type "function") ∧ FnOk P w K mg base CX0 1 fI fd ["self", f] (SpXI K f) ∧ Binds K fd ["self", f] []
theorem mk_of {P : Program} {w : World} {K : PySem.W.Frag} {mg : Str → Option Value} {base : Heap} {x q f : Str} {st : Stmt} {C : Addr} (e : ErrI K mg x q f st C)
    (h : ∀ fI fd, Fun K "__init__" q st fI fd → FnOk P w K mg base CX0 1 fI fd ["self", f] (SpXI K f)) : Mk P w K mg base x f C := by
  obtain ⟨g, o, n, fI, fd, i, t, F, b⟩ := e
  exact ⟨g, o, n, fI, fd, i, t, h fI fd F, b⟩
section
variable {X : Cx} {x f : Str} {C : Addr} {e : Expr} {te : TE} {p pos : Pos}
theorem pe_cls (hm : X.mg x = some (.ref C)) (hg : Gl X x) (hdb : (x == ("__debug__" : Str)) = false := by decide) : PE X (.Name x pos) (tC (.ref C)) := pe_glob hg hm rfl hdb
theorem pe_gstr {z : Str} (c : ∃ t, X.mg x = some (.str z t)) (l : List Nat) (h : z = tx l) (hg : Gl X x) (hdb : (x == ("__debug__" : Str)) = false := by decide) : PE X (.Name x pos) (tC (.str (tx l))) := by
  obtain ⟨t, c⟩ := c
  exact pe_glob hg c ⟨t, by rw [h]⟩ hdb
theorem pe_gint {i : Int} (c : ∃ t, X.mg x = some (.int i t)) (hg : Gl X x) (hdb : (x == ("__debug__" : Str)) = false := by decide) : PE X (.Name x pos) (tC (.int i)) := by
  obtain ⟨t, c⟩ := c
  exact pe_glob hg c ⟨t, rfl⟩ hdb
theorem pe_err0 (m : Err0 X.K X.mg x C) (hg : Gl X x) (hdb : (x == ("__debug__" : Str)) = false := by decide) : PE X (.Call (.Name x p) [] [] pos) (tMkN C) := pe_mkN F.excBase_ValueError m.2.2 m.1 m.2.1.kC hg hdb
theorem pe_errI (m : Mk X.prog X.w X.K X.mg X.base x f C) (hr : Room 2 X.A) (hg : Gl X x) (ha : PE X e te) (hdb : (x == ("__debug__" : Str)) = false := by decide)
    (he : starEach (e :: []) X.env = (false, eval e X.env) :: starEach [] X.env := by rfl) (hpl : (backTo pos (starEach [] X.env)).any (·.1) = false := by rfl) : PE X (.Call (.Name x p) [e] [] pos) (tMkX C f te) := by
  obtain ⟨g, o, n, fI, fd, i, t, F, b⟩ := m
  exact pe_mkX o i t n F hr b pass0 hg g ha hdb he hpl
end
theorem pmk_err0 {X : Cx} {x : Str} {C : Addr} {p pos : Pos} (m : Err0 X.K X.mg x C) (hg : Gl X x) (hdb : (x == ("__debug__" : Str)) = false := by decide) : PMk X (.Call (.Name x p) [] [] pos) (fun _ H Q => Q (.ref C) none H) := by
  intro pins s σ H Q I h
  refine wpAny_Call_Name_kw (ld_glob I hg m.1 ?_ hdb)
  refine PySem.W.callWith_K0 (K := X.K) (I.tok _).kIn m.2.1.kC ?_
  show wpAny _ _ (call (.ref C) []) _ _ _
  obtain ⟨bm, N, nm, qn, bs, hdct, sn, sub, ab, col, dd, k0, k1, k2, k3, k5, mN, hC, hN, hni, T⟩ := exc_obj (I.tok _).kIn m.2.2
  refine wpAny_call_exc_subT F.excBase_ValueError T hC hN hni (fun h' e hm => ?_) (by show 0 ≤ sizeLine; omega)
  exact L2.mk_of I hm (raises_own m.2.1.xf.exC m.2.1.ty) h (I.hok.gone hm.new)
/-- a def that may raise, under its name -/
def ClX (P : Program) (w : World) (K : PySem.W.Frag) (mg : Str → Option Value) (base : Heap) (nm : Str) (ps : List Str) (k : Nat) (sp : Sp) : Prop :=
  ∃ (f : Addr) (fd : FuncData), mg nm = some (.ref f) ∧ FnOk P w K mg base (L2.CX P w) k f fd ps sp ∧ PySem.W.keepIn K (.ref f) = true ∧ Binds K fd ps []
theorem clX_of {P : Program} {w : World} {K : PySem.W.Frag} {mg : Str → Option Value} {base : Heap} {nm : Str} {st : Stmt} {ps : List Str} {k : Nat} {sp : Sp}
    (a : At K mg nm st ps) (h : ∀ f fd, Fun K nm nm st f fd → FnOk P w K mg base (L2.CX P w) k f fd ps sp) : ClX P w K mg base nm ps k sp := by
  obtain ⟨f, fd, F, m, b⟩ := a
  exact ⟨f, fd, m, h f fd F, F.kp, b⟩
theorem pe_clX {X : Cx} {nm : Str} {ps : List Str} {k : Nat} {sp : Sp} {e : Expr} {es : List Expr} {t : TA} {p pos : Pos} {W : WX} (c : ClX X.prog X.w X.K X.mg X.base nm ps k sp) (hr : Room k X.A) (hg : Gl X nm) (tk : Takes X W) (ha : PA X (e :: es) t)
    (hdb : (nm == ("__debug__" : Str)) = false := by decide) (he : starEach (e :: es) X.env = (false, eval e X.env) :: starEach es X.env := by rfl) (hpl : (backTo pos (starEach es X.env)).any (·.1) = false := by rfl) :
    PE X (.Call (.Name nm p) (e :: es) [] pos) (tCallS sp (WE W) t) := by
  obtain ⟨f, fd, m, F, kp, b⟩ := c
  exact pe_callS F hr hg m kp b (fun σ => passAt tk σ) ha hdb he hpl
/-- an error stands at a: its class, its one field -/
def ErrAt (H : Hp) (a C : Addr) (f : Str) (v : V) : Prop := ∃ dx, H a = some (exo a C (some dx)) ∧ H dx = some (exd dx [(f, v)])
def IsErr (H : Hp) (a C : Addr) : Prop := ∃ d, H a = some (exo a C d) ∧ ∀ dx, d = some dx → ∃ fs, H dx = some (exd dx fs)
theorem ErrAt.is {H : Hp} {a C : Addr} {f : Str} {v : V} (h : ErrAt H a C f v) : IsErr H a C := by
  obtain ⟨dx, h1, h2⟩ := h
  refine ⟨some dx, h1, fun d e => ?_⟩
  cases e
  exact ⟨_, h2⟩
theorem IsErr.same {H H' : Hp} {a C : Addr} (h : IsErr H a C) (s : Same H H') : IsErr H' a C := by
  obtain ⟨d, h1, h2⟩ := h
  refine ⟨d, s _ _ h1, fun dx e => ?_⟩
  obtain ⟨fs, h3⟩ := h2 dx e
  exact ⟨fs, s _ _ h3⟩
theorem ErrAt.same {H H' : Hp} {a C : Addr} {f : Str} {v : V} (h : ErrAt H a C f v) (s : Same H H') : ErrAt H' a C f v := by
  obtain ⟨dx, h1, h2⟩ := h
  exact ⟨dx, s _ _ h1, s _ _ h2⟩
section
variable {K : PySem.W.Frag} {σ : L2.St} {H : Hp} {Q : VK} {te : TE} {ta : TA} {C : Addr} {f n : Str} {R : It → Hp → Prop}
theorem rd_mkN (q : ∀ a H', H a = none → Same H H' → IsErr H' a C → Q (.ref a) H') : tMkN C σ H Q := fun a ha => q a _ ha (same_upd ha) ⟨none, upd_same, fun _ e => by cases e⟩
theorem rd_mkX (h : te σ H fun v H1 => ∀ a dx, H1 a = none → H1 dx = none → dx ≠ a → Q (.ref a) (upd (upd (upd H1 a (exo a C none)) dx (exd dx [(f, v)])) a (exo a C (some dx)))) : tMkX C f te σ H Q := h
theorem mkX_end {v : V} (q : ∀ a H', H a = none → Same H H' → ErrAt H' a C f v → Q (.ref a) H') : ∀ a dx, H a = none → H dx = none → dx ≠ a → Q (.ref a) (upd (upd (upd H a (exo a C none)) dx (exd dx [(f, v)])) a (exo a C (some dx))) :=
  fun a dx ha hd hne => q a _ ha (same_mut (same_mut (same_upd ha) hd) ha) ⟨dx, upd_same, by rw [upd_ne hne, upd_same]⟩
theorem rd_xfl (h : te σ H fun x H1 => ∃ (a C d : Addr) (fs : List (Str × V)) (v : V), x = .ref a ∧ XfC K C ∧ PySem.W.findIn K (.ref C) n = some none ∧ H1 a = some (exo a C (some d)) ∧ H1 d = some (exd d fs) ∧ fs.lookup n = some v ∧ Q v H1) : tXfl K n te σ H Q := h
theorem xfl_end {a : Addr} {v : V} (T : OxC K C) (hno : PySem.W.findIn K (.ref C) n = some none) (e : ErrAt H a C n v) (q : Q v H) :
    ∃ (b C' d : Addr) (fs : List (Str × V)) (v' : V), V.ref a = .ref b ∧ XfC K C' ∧ PySem.W.findIn K (.ref C') n = some none ∧ H b = some (exo b C' (some d)) ∧ H d = some (exd d fs) ∧ fs.lookup n = some v' ∧ Q v' H := by
  obtain ⟨dx, h1, h2⟩ := e
  exact ⟨a, C, dx, _, v, rfl, T.xf, hno, h1, h2, by simp [List.lookup], q⟩
theorem rd_isX {a D : Addr} {b : Bool} (e : IsErr H a C) (T : OxC K C) (k : PySem.W.kitOne K (.ref C) (.ref D) = some b) (q : Q (.bl b) H) : rIsX K [.ref a, .ref D] H Q := by
  obtain ⟨d, h1, h2⟩ := e
  exact ⟨a, C, d, .ref D, .ref D, b, rfl, h1, h2, T.is, .own D, k, q⟩
theorem rd_isXT {a : Addr} {T' : String} {b : Bool} (e : IsErr H a C) (T : OxC K C) (k : PySem.W.kitOne K (.ref C) (.type T') = some b) (q : Q (.bl b) H) : rIsX K [.ref a, .ty T'] H Q := by
  obtain ⟨d, h1, h2⟩ := e
  exact ⟨a, C, d, .ty T', .type T', b, rfl, h1, h2, T.is, .ty T', k, q⟩
theorem rd_isi {x : V} {t : Value} {b : Bool} (ty : TyX K H x t) (k : PySem.W.kitOne K t (.type "str") = some b) (q : Q (.bl b) H) : rIsi K [x, .ty "str"] H Q := ⟨x, .ty "str", t, .type "str", b, rfl, .ty _, ty, k, q⟩
theorem rd_clX {sp : Sp} {E : L2.St → XK} {t : TA} (h : t σ H fun vs H1 => sp vs H1 Q (E σ)) : tCallS sp E t σ H Q := h
theorem rd_notB {a b : Bool} (q : Q (.bl (!decide (a = b))) H) : rNotB (.bl a) (.bl b) H Q := ⟨a, b, rfl, rfl, q⟩
theorem rd_chain {r r' : R2} {ta tb tc : TE} (h : ta σ H fun x H1 => tb σ H1 fun y H2 => r x y H2 fun z H3 => ∃ k, z = .bl k ∧ (if k = true then tc σ H3 fun w' H4 => r' y w' H4 Q else Q (.bl false) H3)) : tChain r r' ta tb tc σ H Q := h
theorem rd_mkN0 (h : ∀ a, H a = none → Q (.ref a) (upd H a (exo a C none))) : tMkN C σ H Q := h
theorem rd_iEnum (h : ta σ H fun vs H1 => ∃ a xs, vs = [.ref a] ∧ SqL K H1 a xs ∧ R (Ite K a) H1) : iEnum K ta σ H R := h
theorem rd_par3 {i j l : Nat} {D : Ends} (h : ta σ H fun vs H1 => ∃ v w u, vs = [v, w, u] ∧ D.nx (((σ.set i (some v)).set j (some w)).set l (some u)) H1) : tPar3 i j l ta D σ H := h
theorem rd_three {P : V → V → V → Prop} {a b c : V} (q : P a b c) : ∃ v w u, [a, b, c] = [v, w, u] ∧ P v w u := ⟨a, b, c, rfl, q⟩
theorem rd_iZipS (h : ta σ H fun vs H1 => ∃ x y, vs = [.str x, .str y] ∧ R (ItzS x y) H1) : iZipS ta σ H R := h
theorem rd_zipS2 {x y : Str} {P : Str → Str → Prop} (q : P x y) : ∃ x' y', [V.str x, V.str y] = [.str x', .str y'] ∧ P x' y' := ⟨x, y, rfl, q⟩
end
/-- a comprehension over zip of two texts -/
theorem lc_zip {l m : List Nat} {g : TG} {tt : TT} {te : TE} {vs : List Nat} {σ : L2.St} {H1 : Hp} {D : Addr} {Qd : Hp → Prop} (Pv : Nat → Hp → Prop) (h0 : Pv 0 (upd H1 D (.lst [])))
    (hs : ∀ (i c d : Nat) (T : Addr) (H : Hp), l[i]? = some c → m[i]? = some d → Pv i H → H T = none → g (.ref T) (wipe σ vs) (upd H T (.tup [.str (tx [c]), .str (tx [d])])) fun σ2 H2 => wipe σ2 vs = wipe σ vs ∧ tt σ2 H2 fun b H3 =>
      if b = true then te σ2 H3 fun y H4 => ∃ acc, H4 D = some (.lst acc) ∧ acc.length < sizeLine ∧ Pv (i + 1) (upd H4 D (.lst (acc ++ [y]))) else Pv (i + 1) H3) (hd : ∀ H, Pv (min l.length m.length) H → Qd H) :
    ∃ W : Nat → Nat → Hp → Prop, (∃ n, W 0 n (upd H1 D (.lst []))) ∧ ∀ i n H, W i n H →
      ((ItzS (tx l) (tx m)).stop i H ∧ Qd H) ∨ ((ItzS (tx l) (tx m)).go i H ∧ ∃ Nx : Hp → Prop, (∀ H', Nx H' → ∃ m', m' < n ∧ W (i + 1) m' H') ∧ ∀ x H', (ItzS (tx l) (tx m)).yld i H x H' → g x (wipe σ vs) H' fun σ2 H2 => wipe σ2 vs = wipe σ vs ∧ tt σ2 H2 fun b H3 =>
        if b = true then te σ2 H3 fun y H4 => ∃ acc, H4 D = some (.lst acc) ∧ acc.length < sizeLine ∧ Nx (upd H4 D (.lst (acc ++ [y]))) else Nx H3) := by
  have e1 : (tx l).cps.size = l.length := by simp [tx]
  have e2 : (tx m).cps.size = m.length := by simp [tx]
  refine ⟨fun i n H => n = min l.length m.length - i ∧ i ≤ min l.length m.length ∧ Pv i H, ⟨_, rfl, Nat.zero_le _, h0⟩, ?_⟩
  rintro i n H ⟨rfl, hi, p⟩
  by_cases hlt : i < min l.length m.length
  · refine .inr ⟨⟨by omega, by omega⟩, Pv (i + 1), fun H' p' => ⟨min l.length m.length - (i + 1), by omega, rfl, hlt, p'⟩, ?_⟩
    rintro x H' ⟨T, c, d, rfl, hT, rfl, hc, hd'⟩
    exact hs i c d T H (by simpa [tx] using hc) (by simpa [tx] using hd') p hT
  · have e : i = min l.length m.length := by omega
    subst e
    exact .inl ⟨⟨by omega, by omega, by omega⟩, hd H p⟩

/-! ### repr of any value -/
/-- how a value is shown, and that it can be -/
structure Good (d : PyData) : Prop where
  s : d.showable = true
  n : d.hasDict = false
  z : d.depth ≤ 20
  l : d.shown.length ≤ 100000
def rReprA (K : PySem.W.Frag) : List V → Hp → VK → Prop := fun xs H Q => ∃ (x : V) (d : PyData), xs = [x] ∧ Dp K H x d ∧ Good d ∧ Q (.str d.shown) H
theorem call_reprA {X : Cx} {k : Nat} (hgd : X.A.guards = some []) (hr : Room k X.A) : CallR X (.builtin "repr") (rReprA X.K) := by
  intro pins s σ H xs us Q I r h
  obtain ⟨x, d, rfl, hd, g, q⟩ := h
  have hsz : d.shown.length ≤ sizeLine := Nat.le_trans g.l (by decide)
  have base : scalR x → reprS x = d.shown → wpAny (model X.prog X.w) X.A (call (.builtin "repr") us) (EP X pins σ Q) X.xe s := fun h1 h2 => call_reprS pins s σ H [x] us Q I r ⟨x, rfl, h1, by rw [h2]; exact q⟩
  cases hd with
  | non => exact base trivial (by simp only [PyData.shown]; rfl)
  | bl b => exact base trivial (by simp only [PyData.shown]; rfl)
  | int i => exact base (by have h0 := g.s; simp only [PyData.showable, decide_eq_true_eq] at h0; exact h0) (by simp only [PyData.shown]; rfl)
  | str z => exact base (by have := hsz; simp only [PyData.shown] at this; exact this) (by simp only [PyData.shown]; rfl)
  | lst h1 h2 => exact call_reprD hgd hr pins s σ H _ us Q I r ⟨_, _, rfl, .lst h1 h2, g.s, g.n, by have := g.z; omega, hsz, q⟩
  | tup h1 h2 => exact call_reprD hgd hr pins s σ H _ us Q I r ⟨_, _, rfl, .tup h1 h2, g.s, g.n, by have := g.z; omega, hsz, q⟩
theorem rd_reprA {K : PySem.W.Frag} {H : Hp} {Q : VK} {x : V} {d : PyData} (h : Dp K H x d) (g : Good d) (q : Q (.str d.shown) H) : rReprA K [x] H Q := ⟨x, d, rfl, h, g, q⟩
theorem sqL_same {K : PySem.W.Frag} {H H' : Hp} {a : Addr} {ys : List V} (h : SqL K H a ys) (s : Same H H') : SqL K H' a ys := by
  rcases h with (h | ⟨o, h⟩) | h
  · exact .inl (.inl (s _ _ h))
  · exact .inl (.inr ⟨o, s _ _ h⟩)
  · exact .inr h
theorem sqT_same {K : PySem.W.Frag} {H H' : Hp} {a : Addr} {ys : List V} (h : SqT K H a ys) (s : Same H H') : SqT K H' a ys := by
  rcases h with (h | ⟨o, h⟩) | h
  · exact .inl (.inl (s _ _ h))
  · exact .inl (.inr ⟨o, s _ _ h⟩)
  · exact .inr h
mutual
theorem Dp.same {K : PySem.W.Frag} {H H' : Hp} (s : Same H H') : ∀ {v : V} {d : PyData}, Dp K H v d → Dp K H' v d
  | _, _, .non => .non
  | _, _, .bl b => .bl b
  | _, _, .int i => .int i
  | _, _, .str x => .str x
  | _, _, .lst h1 h2 => .lst (sqL_same h1 s) (DpAll.same s h2)
  | _, _, .tup h1 h2 => .tup (sqT_same h1 s) (DpAll.same s h2)
theorem DpAll.same {K : PySem.W.Frag} {H H' : Hp} (s : Same H H') : ∀ {vs : List V} {ds : List PyData}, DpAll K H vs ds → DpAll K H' vs ds
  | _, _, .nil => .nil
  | _, _, .cons h1 h2 => .cons (Dp.same s h1) (DpAll.same s h2)
end
end Un

/-! UnNil: xs == [] and xs != [], whatever stands in xs. -/
namespace Un
open PySem PySem.Spec PyProof.Rows L2
def rEqE (K : PySem.W.Frag) : R2 := fun x y H Q => ∃ a b xs, x = .ref a ∧ y = .ref b ∧ SqL K H a xs ∧ SqL K H b [] ∧ Q (.bl xs.isEmpty) H
def rNeE (K : PySem.W.Frag) : R2 := fun x y H Q => ∃ a b xs, x = .ref a ∧ y = .ref b ∧ SqL K H a xs ∧ SqL K H b [] ∧ Q (.bl (!xs.isEmpty)) H
section
variable {X : Cx}
theorem op_eqE (hu : X.A.units + 64 < cLine) : OpR X (compareOp .Eq) (rEqE X.K) := by
  intro pins s σ H x y v u Q I rx ry h
  obtain ⟨a, b, xs, rfl, rfl, ha, hb, q⟩ := h
  cases (show v = Value.ref a from rx)
  cases (show u = Value.ref b from ry)
  obtain ⟨us, r1, p1, _⟩ := I.list ha
  obtain ⟨ws, r2, p2, _⟩ := I.list hb
  cases r2
  cases r1 with
  | nil => exact (SeqAt.RcAt.lists (e := fun _ => true) p1.isList p2.isList rfl (by omega) (fun j h1 => absurd h1 (Nat.not_lt_zero j))) _ _ _ _ ⟨.bl true, H, I, rfl, q⟩
  | cons r rr => exact (SeqAt.RcAt.lists_lengths p1.isList p2.isList (by simp) (by omega)) _ _ _ _ ⟨.bl false, H, I, rfl, q⟩
theorem op_neE (hu : X.A.units + 64 < cLine) : OpR X (compareOp .NotEq) (rNeE X.K) := by
  intro pins s σ H x y v u Q I rx ry h
  obtain ⟨a, b, xs, rfl, rfl, ha, hb, q⟩ := h
  cases (show v = Value.ref a from rx)
  cases (show u = Value.ref b from ry)
  obtain ⟨us, r1, p1, _⟩ := I.list ha
  obtain ⟨ws, r2, p2, _⟩ := I.list hb
  cases r2
  cases r1 with
  | nil => exact (SeqAt.RcNeAt.lists (e := fun _ => true) p1.isList p2.isList rfl (by omega) (fun j h1 => absurd h1 (Nat.not_lt_zero j))) _ _ _ _ ⟨.bl false, H, I, rfl, q⟩
  | cons r rr => exact (SeqAt.RcNeAt.lists_lengths p1.isList p2.isList (by simp) (by omega)) _ _ _ _ ⟨.bl true, H, I, rfl, q⟩
end
section
variable {K : PySem.W.Frag} {H : Hp} {Q : VK} {p e : Addr} {xs : List V}
theorem rd_eqE (h1 : SqL K H p xs) (h2 : SqL K H e []) (q : Q (.bl xs.isEmpty) H) : rEqE K (.ref p) (.ref e) H Q := ⟨p, e, xs, rfl, rfl, h1, h2, q⟩
theorem rd_neE (h1 : SqL K H p xs) (h2 : SqL K H e []) (q : Q (.bl (!xs.isEmpty)) H) : rNeE K (.ref p) (.ref e) H Q := ⟨p, e, xs, rfl, rfl, h1, h2, q⟩
end
end Un

/-! UnOp: instances of own classes under [ ], in, len, == and !=, by their own methods. -/
namespace Un
open PySem PySem.Spec PyProof.Rows L2
section
variable {X : Cx} {CX : CXT} {k : Nat} {C f : Addr} {fd : FuncData} {ps : List Str} {sp : Sp} {E : XK}
/-- an own method called one level in -/
theorem run_in1 {pins : List (Addr × Obj)} {σ : L2.St} {H : Hp} {s : Shared} {Q : VK} {us : List Value} {vs : List V} (F : FnOk X.prog X.w X.K X.mg X.base CX k f fd ps sp) (hr : Room (k + 1) X.A) (hb : Binds X.K fd ps []) (hx : Passes CX X E)
    (I : Inv X pins σ H s) (r : Vals vs us) (h : sp vs H Q E) : wpAny (model X.prog X.w) X.A.in1 (call (.ref f) us) (EP X pins σ Q) X.xe s := by
  have hl : us.length = ps.length := by
    rw [← r.length]
    exact F.len _ _ _ _ h
  have hbd := hb s us I.kIn (by simpa using hl)
  rw [List.append_nil] at hbd
  refine wpAny_call (codeAny_mono (F.run X.A.in1 X.stack s H ⟨us, []⟩ us vs Q E hr.in1 I.env0.in1 hbd r h) fun q s' hq => ?_)
  match q, hq with
  | .error e, hq => exact hx pins σ H s e s' I hq
  | .ok (.ret u), hq => exact I.after hq
  | .ok .next, hq => exact hq.elim
  | .ok .brk, hq => exact hq.elim
  | .ok .cont, hq => exact hq.elim
theorem run_own {pins : List (Addr × Obj)} {σ : L2.St} {H : Hp} {s : Shared} {Q : VK} {us : List Value} {vs : List V} (F : FnOk X.prog X.w X.K X.mg X.base CX k f fd ps sp) (hr : Room k X.A) (hb : Binds X.K fd ps []) (hx : Passes CX X E)
    (I : Inv X pins σ H s) (r : Vals vs us) (h : sp vs H Q E) : wpAny (model X.prog X.w) X.A (call (.ref f) us) (EP X pins σ Q) X.xe s :=
  run_fn F hr hb .nil hx I r (by rw [List.append_nil]; exact h)
/-- o[i] = v -/
def rSetO (C : Addr) (sp : Sp) (E : XK) : TSet := fun o i v H Q => ∃ a dx fs, o = .ref a ∧ H a = some (.ins C dx fs) ∧ sp [.ref a, i, v] H (fun _ H' => Q H') E
theorem set_own (hm : Meth X.K C "__setitem__" f) (hq : PySem.W.noSeq X.K C = true) (F : FnOk X.prog X.w X.K X.mg X.base CX k f fd ps sp) (hr : Room k X.A) (hb : Binds X.K fd ps []) (hx : Passes CX X E) : PSet X (rSetO C sp E) := by
  intro pins s σ H o i v ov iv u Q I ro ri rv h
  obtain ⟨a, dx, fs, rfl, ha, h⟩ := h
  cases (show ov = Value.ref a from ro)
  obtain ⟨mA, O, _⟩ := ins_get I.hok ha
  obtain ⟨od, J, _⟩ := O.look
  obtain ⟨m, hF⟩ := I.fr
  refine PySem.W.ksp_setItem hF I.ok.mod.kin J hq hm.at_ hm.fn (wpAny_mono (run_own F hr hb hx I (show Vals [V.ref a, i, v] [Value.ref a, iv, u] from .cons rfl (.cons ri (.cons rv .nil))) h) (fun r s' hs => ?_) fun _ _ e => e)
  obtain ⟨z, H', I', rz, q⟩ := hs
  exact ⟨H', I', q⟩
/-- x in o, x not in o -/
def rInO (neg : Bool) (C : Addr) (sp : Sp) (E : XK) : R2 := fun x y H Q => ∃ a dx fs, y = .ref a ∧ H a = some (.ins C dx fs) ∧ sp [.ref a, x] H (fun r H' => ∃ b, r = .bl b ∧ Q (.bl (if neg then !b else b)) H') E
theorem op_inO (hm : Meth X.K C "__contains__" f) (F : FnOk X.prog X.w X.K X.mg X.base CX k f fd ps sp) (hr : Room k X.A) (hb : Binds X.K fd ps []) (hx : Passes CX X E) : OpR X (compareOp .In) (rInO false C sp E) := by
  intro pins s σ H x y v u Q I rx ry h
  obtain ⟨a, dx, fs, rfl, ha, h⟩ := h
  cases (show u = Value.ref a from ry)
  obtain ⟨mA, O, _⟩ := ins_get I.hok ha
  obtain ⟨od, J, _⟩ := O.look
  obtain ⟨m, hF⟩ := I.fr
  refine PySem.W.in_K hF I.ok.mod.kin J hm.at_ hm.fn (wpAny_mono (run_own F hr hb hx I (show Vals [V.ref a, x] [Value.ref a, v] from .cons rfl (.cons rx .nil)) h) (fun r s' hs => ?_) fun _ _ e => e)
  obtain ⟨z, H', I', rz, b, rfl, q⟩ := hs
  cases (show r = Value.bool b from rz)
  exact wpAny_truthy_bool ⟨.bl b, H', I', rfl, q⟩
theorem op_notInO (hm : Meth X.K C "__contains__" f) (F : FnOk X.prog X.w X.K X.mg X.base CX k f fd ps sp) (hr : Room k X.A) (hb : Binds X.K fd ps []) (hx : Passes CX X E) : OpR X (compareOp .NotIn) (rInO true C sp E) := by
  intro pins s σ H x y v u Q I rx ry h
  obtain ⟨a, dx, fs, rfl, ha, h⟩ := h
  cases (show u = Value.ref a from ry)
  obtain ⟨mA, O, _⟩ := ins_get I.hok ha
  obtain ⟨od, J, _⟩ := O.look
  obtain ⟨m, hF⟩ := I.fr
  refine PySem.W.notIn_K hF I.ok.mod.kin J hm.at_ hm.fn (wpAny_mono (run_own F hr hb hx I (show Vals [V.ref a, x] [Value.ref a, v] from .cons rfl (.cons rx .nil)) h) (fun r s' hs => ?_) fun _ _ e => e)
  obtain ⟨z, H', I', rz, b, rfl, q⟩ := hs
  cases (show r = Value.bool b from rz)
  exact wpAny_truthy_bool ⟨.bl (!b), H', I', rfl, q⟩
/-- len(o) -/
def rLenO (C : Addr) (sp : Sp) (E : XK) : List V → Hp → VK → Prop := fun xs H Q => ∃ a dx fs, xs = [.ref a] ∧ H a = some (.ins C dx fs) ∧ sp [.ref a] H (fun r H' => ∃ n : Nat, r = .int (n : Int) ∧ n ≤ 1000000 ∧ Q (.int (n : Int)) H') E
theorem call_lenO (hm : Meth X.K C "__len__" f) (F : FnOk X.prog X.w X.K X.mg X.base CX k f fd ps sp) (hr : Room (k + 1) X.A) (hb : Binds X.K fd ps []) (hx : Passes CX X E) : CallR X (.builtin "len") (rLenO C sp E) := by
  intro pins s σ H xs us Q I r h
  obtain ⟨a, dx, fs, rfl, ha, h⟩ := h
  obtain ⟨u, rfl, ru⟩ := vals1 r
  cases (show u = Value.ref a from ru)
  obtain ⟨mA, O, _⟩ := ins_get I.hok ha
  obtain ⟨od, J, _⟩ := O.look
  obtain ⟨m, hF⟩ := I.fr
  refine PySem.W.len_K hF I.ok.mod.kin J hm.at_ hm.fn (wpAny_mono (run_in1 F hr hb hx I (show Vals [V.ref a] [Value.ref a] from .cons rfl .nil) h) (fun r s' hs => ?_) fun _ _ e => e)
  obtain ⟨z, H', I', rz, n, rfl, hn, q⟩ := hs
  obtain ⟨t, rfl⟩ := rz
  exact ⟨⟨by omega, by omega⟩, .int n, H', I'.tok _, ⟨_, rfl⟩, q⟩
/-- o == y where the own method gives a truth value -/
def rEqO (C : Addr) (sp : Sp) (E : XK) (T : V → Hp → Prop) : R2 := fun x y H Q => ∃ a dx fs, x = .ref a ∧ H a = some (.ins C dx fs) ∧ T y H ∧ sp [.ref a, y] H (fun r H' => ∃ b, r = .bl b ∧ Q (.bl b) H') E
/-- what a right operand's class may be -/
def Right (X : Cx) (C : Addr) (T : V → Hp → Prop) : Prop := ∀ (pins : List (Addr × Obj)) (σ : L2.St) (H : Hp) (s : Shared) (y : V) (u : Value), Inv X pins σ H s → RelV y u → T y H → ∃ t, PySem.W.Looks (model X.prog X.w) s.heap (typeOf u) t ∧ PySem.W.notFirst X.K C t = true
theorem op_eqO {T : V → Hp → Prop} (hT : Right X C T) (hm : Meth X.K C "__eq__" f) (F : FnOk X.prog X.w X.K X.mg X.base CX k f fd ps sp) (hr : Room k X.A) (hb : Binds X.K fd ps []) (hx : Passes CX X E) : OpR X (compareOp .Eq) (rEqO C sp E T) := by
  intro pins s σ H x y v u Q I rx ry h
  obtain ⟨a, dx, fs, rfl, ha, ht, h⟩ := h
  cases (show v = Value.ref a from rx)
  obtain ⟨mA, O, _⟩ := ins_get I.hok ha
  obtain ⟨od, J, _⟩ := O.look
  obtain ⟨m, hF⟩ := I.fr
  obtain ⟨t, hL, hn⟩ := hT pins σ H s y u I ry ht
  refine PySem.W.cmp_K (op := .Eq) hr.units0 hF I.ok.mod.kin J hL hn hm.at_ hm.fn (wpAny_mono (run_own F hr hb hx I (show Vals [V.ref a, y] [Value.ref a, u] from .cons rfl (.cons ry .nil)) h) (fun r s' hs => ?_) fun _ _ e => e)
  obtain ⟨z, H', I', rz, b, rfl, q⟩ := hs
  cases (show r = Value.bool b from rz)
  exact ⟨.bl b, H', I', rfl, q⟩
/-- o[i] -/
def rGetO (C : Addr) (sp : Sp) (E : XK) : R2 := fun x y H Q => ∃ a dx fs, x = .ref a ∧ H a = some (.ins C dx fs) ∧ sp [.ref a, y] H Q E
theorem pe_getO {a b : Expr} {ta tb : TE} {pos : Pos} (hm : Meth X.K C "__getitem__" f) (hfn : PySem.W.fnIn X.K f = true) (F : FnOk X.prog X.w X.K X.mg X.base CX k f fd ps sp) (hr : Room (k + 1) X.A) (hb : Binds X.K fd ps []) (hx : Passes CX X E)
    (pa : PE X a ta) (pb : PE X b tb) (hs : ∀ (x : Addr) (i : Value), subscripted b true (.ref x) i = runValue (.builtin "lifetime.subscript" ⟨[.ref x, i], []⟩) := by exact fun _ _ => by with_unfolding_all rfl) : PE X (.Subscript a b pos) (tOp (rGetO C sp E) ta tb) := by
  refine ⟨fun pins s σ H Q I h => Subscript_ (binT pa pb I h fun v u s2 x y H2 I2 rx ry q => ?_)⟩
  obtain ⟨p, dx, fs, rfl, hp, q⟩ := q
  cases (show v = Value.ref p from rx)
  obtain ⟨mA, O, _⟩ := ins_get I2.hok hp
  obtain ⟨od, J, _⟩ := O.look
  obtain ⟨m, hF⟩ := I2.fr
  exact PySem.W.sub_K hF I2.ok.mod.kin J hm.at_ hfn hm.fn (run_in1 F hr hb hx I2 (show Vals [V.ref p, y] [Value.ref p, u] from .cons rfl (.cons ry .nil)) q) (hs p u)
end
end Un

set_option maxHeartbeats 4000000
/-! UnExc: own errors of one field raised, over any base; dead code; methods called with keywords; sorted texts of any number; a walk over a list or a tuple. -/
namespace Un
open PySem PySem.Spec PyProof.Rows L2
/-- code that is never come to -/
theorem ps_dead {X : Cx} {st : Stmt} : PS X st (fun _ _ _ => False) := ⟨fun _ _ _ _ _ _ h => h.elim⟩
theorem pss_dead {X : Cx} {sts : List Stmt} : PSs X sts (fun _ _ _ => False) := ⟨fun _ _ _ _ _ _ h => h.elim⟩
/-- raise C(e) -/
def tMkR (C : Addr) (f : Str) (te : TE) : L2.St → Hp → XK → Prop := fun σ H Q => te σ H fun v H1 => ∀ d, H1 d = none → Q (.ref C) (some d) (upd H1 d (.xd [(f, v)]))
section
variable {X : Cx} {o e : Expr} {te : TE} {f x : Str} {p pos : Pos} {C fI : Addr} {k : Nat} {fd : FuncData} {ps : List Str} {CX : CXT}
theorem pmk_X (T : OxC X.K C) (iC : PySem.W.findIn X.K (.ref C) "__init__" = some (some (.ref fI))) (tI : PySem.W.typeIn X.K (.ref fI) = some (.type "function")) (hno : PySem.W.findIn X.K (.ref C) f = some none)
    (F1 : FnOk X.prog X.w X.K X.mg X.base CX k fI fd ps (SpXI X.K f)) (hr : Room (k + 1) X.A) (hb : Binds X.K fd ps []) (hx : Passes CX X (fun _ _ _ => False)) (hg : Gl X x) (hm : X.mg x = some (.ref C)) (ha : PE X e te)
    (hdb : (x == ("__debug__" : Str)) = false := by decide) (he : starEach (e :: []) X.env = (false, eval e X.env) :: starEach [] X.env := by rfl) (hpl : (backTo pos (starEach [] X.env)).any (·.1) = false := by rfl) :
    PMk X (.Call (.Name x p) [e] [] pos) (tMkR C f te) := by
  intro pins s σ H Q I h
  obtain ⟨nm, q, N, bs, bm, sn, sub, ab, col, dd, k0, k1, k2, k3, k5, B, newId, initId, bmB, hC, FB, BB, hps⟩ := T.cls
  refine wpAny_Call_Name_kw (ld_glob I hg hm ?_ hdb)
  have hA : PA X [e] (tCons te tNil) := pa_cons ha pa_nil he
  refine PySem.W.callWith_K (h₀ := X.base) I.ok.mod.kin T.kC (thn (hA.run pos pins s σ H (fun vs H1 => match vs with | [v] => (∀ d, H1 d = none → Q (.ref C) (some d) (upd H1 d (.xd [(f, v)]))) | _ => False) I h) fun us s1 ⟨vs, H1, I1, r1, q1⟩ => ⟨I1.kIn, ?_⟩) he hpl
  show wpAny _ _ (call (.ref C) us) _ _ _
  obtain ⟨v, rfl⟩ : ∃ v, vs = [v] := by
    rcases vs with _ | ⟨v, _ | ⟨v2, vs⟩⟩
    · exact q1.elim
    · exact ⟨v, rfl⟩
    · exact q1.elim
  replace q1 : ∀ d, H1 d = none → Q (.ref C) (some d) (upd H1 d (.xd [(f, v)])) := q1
  obtain ⟨hp, g, dr, tk, os⟩ := s1
  have hsz : hp.objs.size ≤ hp.objs.size + 1 := Nat.le_succ _
  have hn : H1 (hp.objs.size + 1) = none := I1.hok.fresh hsz
  have hq : SpXI X.K f [.ref (hp.objs.size + 1), v] (upd H1 (hp.objs.size + 1) (exo (hp.objs.size + 1) C none))
      (fun r H2 => r = .non ∧ ∃ d, H1 d = none ∧ d ≠ hp.objs.size + 1 ∧ H2 = upd (upd (upd H1 (hp.objs.size + 1) (exo (hp.objs.size + 1) C none)) d (exd d [(f, v)])) (hp.objs.size + 1) (exo (hp.objs.size + 1) C (some d))) (fun _ _ _ => False) :=
    ⟨_, v, C, rfl, T, hno, upd_same, fun dx hd hda => ⟨rfl, dx, by rw [upd_ne hda] at hd; exact hd, hda, rfl⟩⟩
  have kk : ∀ b o, hp.get? b = some o → ((hp.push (PySem.W.kdv_tup us)).push (PySem.HandSPX.excO C hp.objs.size)).get? b = some o := fun b o z => Heap.get?_push_of_some _ (Heap.get?_push_of_some _ z)
  have hget : ((hp.push (PySem.W.kdv_tup us)).push (PySem.HandSPX.excO C hp.objs.size)).get? (hp.objs.size + 1) = some (PySem.HandSPX.excO C hp.objs.size) := by heap_get
  have I2 : Inv X pins σ (upd H1 (hp.objs.size + 1) (exo (hp.objs.size + 1) C none)) ⟨(hp.push (PySem.W.kdv_tup us)).push (PySem.HandSPX.excO C hp.objs.size), g, dr, tk, os⟩ :=
    I1.laid (t' := tk) (a := hp.objs.size + 1) (o := exo (hp.objs.size + 1) C none) (h' := (hp.push (PySem.W.kdv_tup us)).push (PySem.HandSPX.excO C hp.objs.size)) kk hsz (exo_ok hget)
  have r2 : Vals (V.ref (hp.objs.size + 1) :: ([v] ++ [])) (Value.ref (hp.objs.size + 1) :: (us ++ [])) := .cons rfl (r1.append .nil)
  have hl : (Value.ref (hp.objs.size + 1) :: us ++ []).length = ps.length := by
    have e1 := r2.length
    have e3 := F1.len _ _ _ _ hq
    simp only [List.length_cons, List.length_append, List.length_nil] at e1 e3 ⊢
    omega
  have hus : us.length ≤ sizeLine := by
    rw [← Paired.length r1, sizeLine_eq]
    simp
  refine wpAny_call (PySem.OXX.call_x FB BB (I1.kIn _ _ hC) (PySem.W.looks_findIn I1.kIn iC) (fun self => PySem.W.bind_fn I1.kIn self tI) hus
    (codeAny_mono (F1.run _ X.stack _ _ ⟨Value.ref (hp.objs.size + 1) :: us, []⟩ (Value.ref (hp.objs.size + 1) :: us ++ []) _ _ (fun _ _ _ => False) (hr.make C us []) (I2.env0.make C us []) (hb _ (Value.ref (hp.objs.size + 1) :: us) I2.kIn hl) r2 hq) fun r s' hq' => ?_))
  match r, hq' with
  | .error er, hq' => exact hx pins σ _ _ er s' I2 hq'
  | .ok .next, hq' => exact hq'.elim
  | .ok .brk, hq' => exact hq'.elim
  | .ok .cont, hq' => exact hq'.elim
  | .ok (.ret u), hq' =>
    obtain ⟨w', H2, os2, bare2, un2, hok2, rv, ev, d, hd1, hda, eH⟩ := hq'
    subst ev
    obtain ⟨h2, g2, d2, t2, os'⟩ := s'
    refine ⟨rv, mk_end (raises_own T.xf.exC T.ty) I1 hsz kk un2 hok2 os2 bare2 (by rw [eH, upd_same]) (by rw [eH, upd_ne hda, upd_same]) hd1 ?_⟩
    have e4 : upd (del H2 (hp.objs.size + 1)) d (.xd [(f, v)]) = upd H1 d (.xd [(f, v)]) := by
      funext b
      by_cases hb1 : b = d
      · subst hb1
        rw [upd_same, upd_same]
      · rw [upd_ne hb1, upd_ne hb1]
        by_cases hb2 : b = hp.objs.size + 1
        · subst hb2
          rw [del_same, hn]
        · rw [del_ne hb2, eH, upd_ne hb2, upd_ne hb1, upd_ne hb2]
    rw [e4]
    exact q1 d hd1
end
/-- sorted(texts), any number of them -/
def rSortedT (K : PySem.W.Frag) : List V → Hp → VK → Prop := fun vs H Q => ∃ (a : Addr) (xs : List Str), vs = [V.ref a] ∧ SqL K H a (xs.map V.str) ∧
  ∀ (ys : List Str) (p : Addr), ys.Perm xs → sortedS ys = true → H p = none → Q (.ref p) (upd H p (.lst (ys.map V.str)))
theorem cr_sortedT {X : Cx} : CallR X (.builtin "sorted") (rSortedT X.K) := by
  intro pins s σ H vs us Q I r h
  obtain ⟨a, xs, rfl, hs, q⟩ := h
  obtain ⟨its, rv, hl, hz⟩ := I.list hs
  rw [Vals.ref1 r]
  have hlen0 := rv.length
  refine PyProof.Rows.sorted_strsAny hl.isList rv.strs (by rw [← hlen0]; exact hz) fun out ys h1 h2 h3 => ?_
  obtain ⟨ep, he'⟩ := PyProof.Rows.sortedAll_at s.heap its out
  have hlen : (ys.map V.str).length ≤ sizeLine := by
    rw [List.length_map, h2.length_eq]
    rw [List.length_map] at hz
    exact hz
  exact ⟨.ref _, upd H (s.heap.objs.size + 1) (.lst (ys.map V.str)), I.laid (t' := s.toks) (fun _ _ => PyProof.Rows.sortedAll_old) (Nat.le_succ _) ⟨hlen, out.toList, ep, vals_of_strs h1, he'⟩, rfl, q ys _ h2 h3 (I.hok.fresh (Nat.le_succ _))⟩
/-- for x in xs, a list or a tuple -/
def iSeq (K : PySem.W.Frag) (tl : TE) : TI := fun σ H R => iList K tl σ H R ∨ iTup K tl σ H R
theorem pi_seq {X : Cx} {tg l : Expr} {tl : TE} (hl : PE X l tl) : PI X tg l (iSeq X.K tl) := ⟨fun pins s σ H R I h => h.elim ((pi_list hl).run pins s σ H R I) ((pi_tup hl).run pins s σ H R I)⟩
/-- o.m(e, .., k = v, ..) -/
def tMethN (C : Addr) (m : Str) (n l : Nat) (sp : Sp) (gV : List V → List V → List V) (E : XK) (ta : TE) (t tk : TA) : TE := fun σ H Q => ta σ H fun x H1 => ∃ a dx fs, x = .ref a ∧ H1 a = some (.ins C dx fs) ∧ fs.lookup m = none ∧
  t σ H1 fun vs H2 => tk σ H2 fun zs H3 => vs.length + 1 = n ∧ zs.length = l ∧ sp (gV (x :: vs) zs) H3 Q E
section
variable {X : Cx} {CX : CXT} {k n : Nat} {C f : Addr} {fd : FuncData} {ps ks : List Str} {sp : Sp} {E : XK} {m : Str} {apos pos : Pos} {o e : Expr} {es : List Expr} {kws : List Keyword} {ta : TE} {t tk : TA} {g : List Value → List Value → List Value} {gV : List V → List V → List V}
theorem pe_methN {pl : Sem Bool} (he : PE X o ta) (c : Cls X.K C) (hm : Meth X.K C m f) (F : FnOk X.prog X.w X.K X.mg X.base CX k f fd ps sp) (hr : Room k X.A) (hb : KBn X.K fd ps n ks g gV) (hx : Passes CX X E) (ha : PA X (e :: es) t) (hkw : PK X kws tk)
    (hall : (backToKw pos (keywordEach kws X.env)).all (·.1.isSome) = true := by rfl) (hks : (backToKw pos (keywordEach kws X.env)).filterMap (·.1) = ks := by rfl)
    (hst : starEach (e :: es) X.env = (false, eval e X.env) :: starEach es X.env := by rfl)
    (hpl : ((backTo pos (starEach (e :: es) X.env)).any (·.1) || (backToKw pos (keywordEach kws X.env)).any (·.1.isNone)) = false := by rfl)
    (ht : eval (.Call (.Attribute o m apos) (e :: es) kws pos) X.env = (do let ov ← eval o X.env; standAt apos.atName; let (f, first) ← holding [ov] (getMethod ov m pl); callWith pos f first (backTo pos (starEach (e :: es) X.env)) (backToKw pos (keywordEach kws X.env))) := by rfl) :
    PE X (.Call (.Attribute o m apos) (e :: es) kws pos) (tMethN C m n ks.length sp gV E ta t tk) := by
  refine ⟨fun pins s σ H Q I h => ?_⟩
  refine PySem.W.methodCall_KW (pl := pl) (thn (he.run pins s σ H _ I h) fun u s1 ⟨x, H1, I1, rx, a, dx, fs, ex, ea, l, q⟩ => ?_) ht
  subst ex
  obtain rfl : u = Value.ref a := rx
  refine getmeth_ok I1 ea c hm l ?_
  refine PySem.W.callWith_KW (first := [.ref a]) (h₀ := X.base) I.ok.mod.kin hm.kp hall (thn (ha.run pos pins s1 σ H1 _ I1 q) fun us s2 ⟨vs, H2, I2, r, q2⟩ => ?_) hpl hst
  refine thn (hkw.run pos pins s2 σ H2 _ I2 q2) fun ws s3 ⟨zs, H3, I3, rz, l1, l2, q3⟩ => ⟨I3.kIn, ?_⟩
  rw [hks]
  exact run_fnN (us := .ref a :: us) (vs := .ref a :: vs) F hr hb hx I3 (.cons rfl r) rz (by rw [List.length_cons]; exact l1) l2 q3
end
end Un

/-! UnM: methods in bundles; texts as keys of dicts. -/
namespace Un
open PySem PySem.Spec PyProof.Rows L2
/-- a method as it stands, no default -/
def AtM (K : PySem.W.Frag) (C : Addr) (m qual : Str) (st : Stmt) (ps : List Str) : Prop := ∃ (f : Addr) (fd : FuncData), Fun K m qual st f fd ∧ Meth K C m f ∧ PySem.W.fnIn K f = true ∧ Binds K fd ps []
/-- the same as a promise -/
def MetG (P : Program) (w : World) (K : PySem.W.Frag) (mg : Str → Option Value) (base : Heap) (CX : CXT) (C : Addr) (m : Str) (ps : List Str) (k : Nat) (sp : Sp) : Prop :=
  ∃ (f : Addr) (fd : FuncData), Cls K C ∧ Meth K C m f ∧ FnOk P w K mg base CX k f fd ps sp ∧ PySem.W.fnIn K f = true ∧ Binds K fd ps []
section
variable {P : Program} {w : World} {K : PySem.W.Frag} {mg : Str → Option Value} {base : Heap} {C : Addr} {m qual : Str} {st : Stmt} {ps : List Str} {k : Nat} {sp : Sp} {CX : CXT}
theorem metG_of (c : Cls K C) (a : AtM K C m qual st ps) (h : ∀ f fd, Fun K m qual st f fd → FnOk P w K mg base CX k f fd ps sp) : MetG P w K mg base CX C m ps k sp := by
  obtain ⟨f, fd, F, M, i, b⟩ := a
  exact ⟨f, fd, c, M, h f fd F, i, b⟩
end
section
variable {X : Cx} {C : Addr} {m : Str} {ps : List Str} {k j : Nat} {sp : Sp} {a b : Expr} {ta tb : TE} {pos : Pos} {CX : CXT} {E : XK}
theorem set_G (g : MetG X.prog X.w X.K X.mg X.base CX0 C "__setitem__" ps k sp) (hq : PySem.W.noSeq X.K C = true) (hr : Room j X.A) (hk : k ≤ j) : PSet X (rSetO C sp E0) := by
  obtain ⟨f, fd, c, M, F, i, b⟩ := g
  exact set_own M hq F (hr.mono hk) b pass0
theorem in_G (g : MetG X.prog X.w X.K X.mg X.base CX0 C "__contains__" ps k sp) (hr : Room j X.A) (hk : k ≤ j) : OpR X (compareOp .In) (rInO false C sp E0) := by
  obtain ⟨f, fd, c, M, F, i, b⟩ := g
  exact op_inO M F (hr.mono hk) b pass0
theorem notIn_G (g : MetG X.prog X.w X.K X.mg X.base CX0 C "__contains__" ps k sp) (hr : Room j X.A) (hk : k ≤ j) : OpR X (compareOp .NotIn) (rInO true C sp E0) := by
  obtain ⟨f, fd, c, M, F, i, b⟩ := g
  exact op_notInO M F (hr.mono hk) b pass0
theorem len_G (g : MetG X.prog X.w X.K X.mg X.base CX0 C "__len__" ps k sp) (hr : Room j X.A) (hk : k + 1 ≤ j) : CallR X (.builtin "len") (rLenO C sp E0) := by
  obtain ⟨f, fd, c, M, F, i, b⟩ := g
  exact call_lenO M F (hr.mono hk) b pass0
theorem eq_G {T : V → Hp → Prop} (hT : Right X C T) (g : MetG X.prog X.w X.K X.mg X.base CX0 C "__eq__" ps k sp) (hr : Room j X.A) (hk : k ≤ j) : OpR X (compareOp .Eq) (rEqO C sp E0 T) := by
  obtain ⟨f, fd, c, M, F, i, b⟩ := g
  exact op_eqO hT M F (hr.mono hk) b pass0
theorem pe_getG (g : MetG X.prog X.w X.K X.mg X.base CX C "__getitem__" ps k sp) (hr : Room j X.A) (hk : k + 1 ≤ j) (hx : Passes CX X E) (pa : PE X a ta) (pb : PE X b tb)
    (hs : ∀ (x : Addr) (i : Value), subscripted b true (.ref x) i = runValue (.builtin "lifetime.subscript" ⟨[.ref x, i], []⟩) := by exact fun _ _ => by with_unfolding_all rfl) : PE X (.Subscript a b pos) (tOp (rGetO C sp E) ta tb) := by
  obtain ⟨f, fd, c, M, F, i, b⟩ := g
  exact pe_getO M i F (hr.mono hk) b hx pa pb hs
end
section
variable {X : Cx} {C : Addr} {m x : Str} {ps : List Str} {k j : Nat} {sp : Sp} {e o : Expr} {es : List Expr} {ta : TE} {t : TA} {p pos apos : Pos} {dvs : List V}
/-- o.m(e, ..) and o.m() -/
theorem pe_mtG {pl : Sem Bool} (g : MetG X.prog X.w X.K X.mg X.base CX0 C m ps k sp) (hr : Room j X.A) (hk : k ≤ j) (he : PE X o ta) (ha : PA X (e :: es) t)
    (hst : starEach (e :: es) X.env = (false, eval e X.env) :: starEach es X.env := by rfl) (hpl : (backTo pos (starEach es X.env)).any (·.1) = false := by rfl)
    (ht : eval (.Call (.Attribute o m apos) (e :: es) [] pos) X.env = (do let ov ← eval o X.env; standAt apos.atName; let (f, first) ← holding [ov] (getMethod ov m pl); callWith pos f first (backTo pos (starEach (e :: es) X.env)) (backToKw pos (keywordEach [] X.env))) := by rfl) :
    PE X (.Call (.Attribute o m apos) (e :: es) [] pos) (tMeth C m sp [] E0 ta t) := by
  obtain ⟨f, fd, c, M, F, i, b⟩ := g
  exact pe_meth (pl := pl) he c M F (hr.mono hk) b .nil pass0 ha hst hpl ht
theorem pe_mtG0 {pl : Sem Bool} (g : MetG X.prog X.w X.K X.mg X.base CX0 C m ps k sp) (hr : Room j X.A) (hk : k ≤ j) (he : PE X o ta)
    (ht : eval (.Call (.Attribute o m apos) [] [] pos) X.env = (do let ov ← eval o X.env; standAt apos.atName; let (f, first) ← holding [ov] (getMethod ov m pl); callWith pos f first (backTo pos (starEach [] X.env)) (backToKw pos (keywordEach [] X.env))) := by rfl) :
    PE X (.Call (.Attribute o m apos) [] [] pos) (tMeth C m sp [] E0 ta tNil) := by
  obtain ⟨f, fd, c, M, F, i, b⟩ := g
  exact pe_meth0 (pl := pl) he c M F (hr.mono hk) b .nil pass0 ht
/-- the same with defaults -/
def MetD (P : Program) (w : World) (K : PySem.W.Frag) (mg : Str → Option Value) (base : Heap) (C : Addr) (m : Str) (k : Nat) (sp : Sp) (dvs : List V) : Prop :=
  ∃ (f : Addr) (fd : FuncData) (ps : List Str) (ds : List Value), Cls K C ∧ Meth K C m f ∧ FnOk P w K mg base CX0 k f fd ps sp ∧ Binds K fd ps ds ∧ Vals dvs ds
theorem pe_mtD {pl : Sem Bool} (g : MetD X.prog X.w X.K X.mg X.base C m k sp dvs) (hr : Room j X.A) (hk : k ≤ j) (he : PE X o ta) (ha : PA X (e :: es) t)
    (hst : starEach (e :: es) X.env = (false, eval e X.env) :: starEach es X.env := by rfl) (hpl : (backTo pos (starEach es X.env)).any (·.1) = false := by rfl)
    (ht : eval (.Call (.Attribute o m apos) (e :: es) [] pos) X.env = (do let ov ← eval o X.env; standAt apos.atName; let (f, first) ← holding [ov] (getMethod ov m pl); callWith pos f first (backTo pos (starEach (e :: es) X.env)) (backToKw pos (keywordEach [] X.env))) := by rfl) :
    PE X (.Call (.Attribute o m apos) (e :: es) [] pos) (tMeth C m sp dvs E0 ta t) := by
  obtain ⟨f, fd, ps, ds, c, M, F, b, d⟩ := g
  exact pe_meth (pl := pl) he c M F (hr.mono hk) b d pass0 ha hst hpl ht
theorem pe_mtD0 {pl : Sem Bool} (g : MetD X.prog X.w X.K X.mg X.base C m k sp dvs) (hr : Room j X.A) (hk : k ≤ j) (he : PE X o ta)
    (ht : eval (.Call (.Attribute o m apos) [] [] pos) X.env = (do let ov ← eval o X.env; standAt apos.atName; let (f, first) ← holding [ov] (getMethod ov m pl); callWith pos f first (backTo pos (starEach [] X.env)) (backToKw pos (keywordEach [] X.env))) := by rfl) :
    PE X (.Call (.Attribute o m apos) [] [] pos) (tMeth C m sp dvs E0 ta tNil) := by
  obtain ⟨f, fd, ps, ds, c, M, F, b, d⟩ := g
  exact pe_meth0 (pl := pl) he c M F (hr.mono hk) b d pass0 ht
/-- C(e, ..) -/
def MakD (P : Program) (w : World) (K : PySem.W.Frag) (mg : Str → Option Value) (base : Heap) (x : Str) (C : Addr) (k : Nat) (sp : Sp) (dvs : List V) : Prop :=
  ∃ (f : Addr) (fd : FuncData) (ps : List Str) (ds : List Value), L2.Mk K C f ∧ FnOk P w K mg base CX0 k f fd ps sp ∧ mg x = some (.ref C) ∧ Binds K fd ps ds ∧ Vals dvs ds
theorem pe_mkD (g : MakD X.prog X.w X.K X.mg X.base x C k sp dvs) (hr : Room j X.A) (hk : k + 1 ≤ j) (hg : Gl X x) (ha : PA X (e :: es) t)
    (hdb : (x == ("__debug__" : Str)) = false := by decide) (he : starEach (e :: es) X.env = (false, eval e X.env) :: starEach es X.env := by rfl) (hpl : (backTo pos (starEach es X.env)).any (·.1) = false := by rfl) :
    PE X (.Call (.Name x p) (e :: es) [] pos) (tMake C sp dvs E0 t) := by
  obtain ⟨f, fd, ps, ds, M, F, hm, b, d⟩ := g
  exact pe_make M F (hr.mono hk) hg hm b d pass0 ha hdb he hpl
end
def rGtX : R2 := fun x y H Q => ∃ a b, x = .str (tx a) ∧ y = .str (tx b) ∧ Q (.bl (decide (b < a))) H
theorem op_gtX {X : Cx} : OpR X (compareOp .Gt) rGtX := by
  intro pins s σ H x y v u Q I rx ry h
  obtain ⟨a, b, rfl, rfl, q⟩ := h
  exact op_gt_str pins s σ H _ _ v u Q I rx ry ⟨_, _, rfl, rfl, by rw [tx_cps, tx_cps]; exact q⟩
/-! ### tables from texts to ints -/
abbrev Tab := List (List Nat × Int)
def encT (m : Tab) : List (Key × V) := m.map fun p => (Sum.inr (tx p.1), V.int p.2)
def getT (m : Tab) (k : List Nat) : Option Int := (m.find? fun p => decide (p.1 = k)).map (·.2)
def putT (m : Tab) (k : List Nat) (v : Int) : Tab := if (m.any fun p => decide (p.1 = k)) = true then m.map (fun p => if p.1 = k then (p.1, v) else p) else m ++ [(k, v)]
def dropT (m : Tab) (k : List Nat) : Tab := m.filter fun p => decide (p.1 ≠ k)
theorem key_eq {a b : List Nat} : ((Sum.inr (tx a) : Key) = Sum.inr (tx b)) ↔ a = b := ⟨fun h => tx_inj (Sum.inr.inj h), fun h => by rw [h]⟩
theorem valV_enc (k : List Nat) : ∀ m : Tab, valV (encT m) (Sum.inr (tx k)) = (getT m k).map V.int
  | [] => rfl
  | (a, v) :: r => by
    by_cases h : a = k
    · subst h
      show valV ((Sum.inr (tx a), V.int v) :: encT r) (Sum.inr (tx a)) = _
      rw [valV_pos rfl]
      simp [getT]
    · show valV ((Sum.inr (tx a), V.int v) :: encT r) (Sum.inr (tx k)) = _
      rw [valV_neg (fun e => h (key_eq.mp e)), valV_enc k r]
      simp [getT, h]
theorem putK_enc (m : Tab) (k : List Nat) (v : Int) : putK (encT m) (Sum.inr (tx k)) (V.int v) = encT (putT m k v) := by
  unfold putK putT
  have e1 : ((encT m).any fun kv => decide (kv.1 = Sum.inr (tx k))) = (m.any fun p => decide (p.1 = k)) := by
    unfold encT
    rw [List.any_map]
    congr 1
    funext p
    show decide ((Sum.inr (tx p.1) : Key) = Sum.inr (tx k)) = decide (p.1 = k)
    rw [decide_eq_decide]
    exact key_eq
  rw [e1]
  split
  · unfold encT
    rw [List.map_map, List.map_map]
    congr 1
    funext p
    show (if (Sum.inr (tx p.1) : Key) = Sum.inr (tx k) then _ else _) = (Sum.inr (tx (if p.1 = k then (p.1, v) else p).1), V.int (if p.1 = k then (p.1, v) else p).2)
    by_cases h : p.1 = k
    · rw [if_pos (key_eq.mpr h), if_pos h]
    · rw [if_neg (fun e => h (key_eq.mp e)), if_neg h]
  · unfold encT
    rw [List.map_append]
    rfl
theorem dropK_enc (m : Tab) (k : List Nat) : dropK (encT m) (Sum.inr (tx k)) = encT (dropT m k) := by
  unfold dropK dropT encT
  rw [List.filter_map]
  congr 1
  congr 1
  funext p
  show decide ((Sum.inr (tx p.1) : Key) ≠ Sum.inr (tx k)) = decide (p.1 ≠ k)
  rw [decide_eq_decide]
  exact not_congr key_eq
theorem encT_len (m : Tab) : (encT m).length = m.length := List.length_map _
def keysT (m : Tab) : List (List Nat) := m.map (·.1)
theorem putT_keys (m : Tab) (k : List Nat) (v : Int) : keysT (putT m k v) = if k ∈ keysT m then keysT m else keysT m ++ [k] := by
  unfold putT
  have e : (m.any fun p => decide (p.1 = k)) = decide (k ∈ keysT m) := by
    rw [Bool.eq_iff_iff, List.any_eq_true, decide_eq_true_eq]
    unfold keysT
    rw [List.mem_map]
    constructor
    · rintro ⟨p, h1, h2⟩
      exact ⟨p, h1, by simpa using h2⟩
    · rintro ⟨p, h1, h2⟩
      exact ⟨p, h1, by simpa using h2⟩
  rw [e]
  by_cases h : k ∈ keysT m
  · rw [if_pos (decide_eq_true h), if_pos h]
    unfold keysT
    rw [List.map_map]
    congr 1
    funext p
    show (if p.1 = k then (p.1, v) else p).1 = p.1
    split <;> rfl
  · rw [if_neg (by simpa using h), if_neg h]
    unfold keysT
    rw [List.map_append]
    rfl
theorem putT_nodup {m : Tab} {k : List Nat} {v : Int} (h : (keysT m).Nodup) : (keysT (putT m k v)).Nodup := by
  rw [putT_keys]
  split
  · exact h
  · rename_i hk
    exact List.nodup_append.mpr ⟨h, by simp, fun a ha b hb => by
      have : b = k := by simpa using hb
      subst this
      rintro rfl
      exact hk ha⟩
theorem dropT_nodup {m : Tab} {k : List Nat} (h : (keysT m).Nodup) : (keysT (dropT m k)).Nodup := by
  unfold keysT dropT at *
  exact h.sublist (List.filter_sublist.map _)
theorem getT_some {m : Tab} {k : List Nat} (h : k ∈ keysT m) : ∃ v, getT m k = some v := by
  unfold getT keysT at *
  obtain ⟨p, hp, rfl⟩ := List.mem_map.mp h
  cases e : m.find? fun q => decide (q.1 = p.1) with
  | none =>
    have := List.find?_eq_none.mp e p hp
    simp at this
  | some q => exact ⟨q.2, rfl⟩
theorem getT_none {m : Tab} {k : List Nat} (h : k ∉ keysT m) : getT m k = none := by
  unfold getT keysT at *
  rw [Option.map_eq_none_iff, List.find?_eq_none]
  intro p hp
  simp only [decide_eq_true_eq]
  intro e
  exact h (List.mem_map.mpr ⟨p, hp, e⟩)
/-! ### sorted texts -/
theorem sortedS_le : ∀ {ys : List (List Nat)}, sortedS (ys.map tx) = true → ys.Pairwise (fun a b => ¬ b < a) := by
  have aux : ∀ (r : List (List Nat)) (p : List Nat), risingS (tx p) (r.map tx) = true → (p :: r).Pairwise (fun a b => ¬ b < a) := by
    intro r
    induction r with
    | nil => intro p _; simp
    | cons k r ih =>
      intro p h
      rw [List.map_cons] at h
      unfold risingS at h
      rw [Bool.and_eq_true, tx_cps, tx_cps, PyProof.Rows.ltCps_eq] at h
      have h1 : ¬ k < p := by simpa using h.1
      have h2 := ih k h.2
      refine List.Pairwise.cons (fun x hx => ?_) h2
      rcases List.mem_cons.mp hx with e | hx
      · rw [e]
        exact h1
      · have h3 := (List.pairwise_cons.mp h2).1 x hx
        intro h4
        rcases Classical.em (p < k) with h5 | h5
        · exact h3 (List.lt_trans h4 h5)
        · exact h3 (by
            have : p = k := List.le_antisymm (List.not_lt.mp h1) (List.not_lt.mp h5)
            rw [← this]
            exact h4)
  intro ys h
  cases ys with
  | nil => exact .nil
  | cons a r => exact aux r a h
theorem sort_unique : ∀ {xs ys : List (List Nat)}, xs.Perm ys → xs.Pairwise (fun a b => ¬ b < a) → ys.Pairwise (fun a b => ¬ b < a) → xs = ys
  | [], ys, h, _, _ => (List.nil_perm.mp h).symm
  | a :: r, ys, h, hx, hy => by
    cases ys with
    | nil => exact absurd h (by simp)
    | cons b t =>
      have hab : a = b := by
        have ha : a ∈ b :: t := h.mem_iff.mp List.mem_cons_self
        have hb : b ∈ a :: r := h.mem_iff.mpr List.mem_cons_self
        rcases List.mem_cons.mp ha with e | ha
        · exact e
        · rcases List.mem_cons.mp hb with e | hb
          · exact e.symm
          · exact List.le_antisymm (List.not_lt.mp ((List.pairwise_cons.mp hx).1 b hb)) (List.not_lt.mp ((List.pairwise_cons.mp hy).1 a ha))
      subst hab
      rw [sort_unique (List.Perm.cons_inv h) (List.pairwise_cons.mp hx).2 (List.pairwise_cons.mp hy).2]
/-! ### two tables compared -/
def eqTab (m n : Tab) : Bool := decide (m.length = n.length) && m.all fun p => decide (getT n p.1 = some p.2)
theorem relO_none {o : Option Value} (h : RelO none o) : o = none := by
  cases o with
  | none => rfl
  | some v => exact h.elim
theorem hits_tab {A : Around} {s : Shared} {n : Tab} {vb : List (Key × Value)} (rb : KV (encT n) vb) : ∀ {m : Tab} {va : List (Key × Value)}, KV (encT m) va → PySem.W.KeqHits A s vb va (m.all fun p => decide (getT n p.1 = some p.2))
  | [], va, ra => by
    cases ra
    exact .nil
  | (k, x) :: r, va, ra => by
    cases ra with
    | @cons _ q _ qs h t =>
      obtain ⟨key, v⟩ := q
      obtain ⟨h1, h2⟩ := h
      have h1' : (Sum.inr (tx k) : Key) = key := h1
      subst h1'
      obtain ⟨tk, rfl⟩ := h2
      have ih := hits_tab (A := A) (s := s) rb (m := r) t
      have rr : RelO ((getT n k).map V.int) (valueAt vb (Sum.inr (tx k))) := by
        rw [← valV_enc]
        exact rb.val _
      rw [List.all_cons]
      cases e : getT n k with
      | none =>
        rw [e] at rr
        have : decide ((none : Option Int) = some x) = false := by simp
        simp only [e, this, Bool.false_and]
        exact .miss (relO_none rr)
      | some y =>
        rw [e] at rr
        obtain ⟨u, hu, ru⟩ := RelO.some_of (v := V.int y) (o := valueAt vb (Sum.inr (tx k))) rr
        obtain ⟨tk2, rfl⟩ := ru
        have e2 : decide (some y = some x) = (x == y) := by
          rw [Bool.eq_iff_iff, decide_eq_true_eq, beq_iff_eq]
          exact ⟨fun h => (Option.some.inj h).symm, fun h => by rw [h]⟩
        simp only [e, e2]
        exact .hit hu (SeqAt.EqAt.int_int x tk y tk2) ih
def rEqT : R2 := fun x y H Q => ∃ a b m n, x = .ref a ∧ y = .ref b ∧ H a = some (.dK (encT m)) ∧ H b = some (.dK (encT n)) ∧ Q (.bl (eqTab m n)) H
theorem op_eqT {X : Cx} (hu : X.A.units + 1 < cLine) : OpR X (compareOp .Eq) rEqT := by
  intro pins s σ H x y v u Q I rx ry h
  obtain ⟨a, b, m, n, rfl, rfl, ea, eb, q⟩ := h
  cases (show v = Value.ref a from rx)
  cases (show u = Value.ref b from ry)
  obtain ⟨_, ya, va, ra, da⟩ := (show ObjOk X.prog X.w H s.heap a (.dK (encT m)) from I.hok a _ ea)
  obtain ⟨_, yb, vb, rb, db⟩ := (show ObjOk X.prog X.w H s.heap b (.dK (encT n)) from I.hok b _ eb)
  have e1 : va.length = m.length := by rw [← Paired.length ra, encT_len]
  have e2 : vb.length = n.length := by rw [← Paired.length rb, encT_len]
  refine PySem.W.keq_eq (knd := mixKind X.prog X.w) ya yb da db (by omega) (fun _ => hits_tab rb ra) (fin_bl I q ?_)
  unfold eqTab
  congr 1
  rw [Bool.eq_iff_iff, decide_eq_true_eq, beq_iff_eq, e1, e2]
theorem rd_eqT {H : Hp} {Q : VK} {a b : Addr} {m n : Tab} (h1 : H a = some (.dK (encT m))) (h2 : H b = some (.dK (encT n))) (q : Q (.bl (eqTab m n)) H) : rEqT (.ref a) (.ref b) H Q := ⟨a, b, m, n, rfl, rfl, h1, h2, q⟩
end Un

/-! UnK: what the end of a proof asks of own exception classes, one Bool a class. -/
namespace Un
open PySem PySem.Spec PyProof.Rows L2
def clB (K : PySem.W.Frag) (C : Addr) : Bool :=
  decide (PySem.W.findIn K (.ref C) "__setattr__" = some (some (.builtin "object.__setattr__"))) && (PySem.W.keepIn K (.ref C) && (xfB K C &&
  (decide (PySem.W.findIn K (.ref C) "__class__" = some (some (.builtin "object.__class__"))) && (decide (PySem.W.specialIn K (.builtin "object.__class__") "__get__" = some (some (.builtin "getset_descriptor.__get__"))) &&
  (decide (PySem.W.takesIn K (.builtin "object.__class__") = some true) && (decide (PySem.W.mroIn K C (.type "object") = some true) && (decide (PySem.W.typeIn K (.ref C) = some (.type "type")) && decide (PySem.W.exmOne K (.ref C) (.ref C) = some true))))))))
section
variable {K : PySem.W.Frag} {C N : Addr} {nm q : Str} {bs bm : List Value} {sn : List Str} {sub : List Value} {ab : Bool} {col : Option Bool} {dd : Option Addr} {k0 k1 k2 k3 k5 : Option Value} {newId : String}
theorem oxc_of (cls : ∃ nm q N bs bm sn sub ab col dd k0 k1 k2 k3 k5 B newId initId bmB, K.lookup C = some (excClassObj nm q C N bs bm true sn sub ab col dd k0 k1 k2 k3 k5 newId) ∧ ExcBaseFacts B newId initId bmB ∧ PySem.OXX.Beh B bm ∧ ∀ self, refuseLoop self "__setattr__" (.ref C :: bm) = pure ())
    (b : clB K C = true) : OxC K C := by
  obtain ⟨h1, b⟩ := Bool.and_eq_true_iff.mp b
  obtain ⟨h2, b⟩ := Bool.and_eq_true_iff.mp b
  obtain ⟨h3, b⟩ := Bool.and_eq_true_iff.mp b
  obtain ⟨h4, b⟩ := Bool.and_eq_true_iff.mp b
  obtain ⟨h5, b⟩ := Bool.and_eq_true_iff.mp b
  obtain ⟨h6, b⟩ := Bool.and_eq_true_iff.mp b
  obtain ⟨h7, b⟩ := Bool.and_eq_true_iff.mp b
  obtain ⟨h8, h9⟩ := Bool.and_eq_true_iff.mp b
  have x := xfB_ok h3
  exact ⟨cls, of_decide_eq_true h1, h2, x, ⟨x.ga, x.gg, x.exC, x.hdC, of_decide_eq_true h4, of_decide_eq_true h5, of_decide_eq_true h6, of_decide_eq_true h7⟩, of_decide_eq_true h8, of_decide_eq_true h9⟩
theorem oxc_ve (xL : K.lookup C = some (excClassObj nm q C N bs [.type "ValueError", .type "Exception", .type "BaseException", .type "object"] true sn sub ab col dd k0 k1 k2 k3 k5 "ValueError.__new__")) (b : clB K C = true) : OxC K C :=
  oxc_of ⟨nm, q, N, bs, _, sn, sub, ab, col, dd, k0, k1, k2, k3, k5, _, _, _, _, xL, PySem.F.excBase_ValueError, ⟨by decide +kernel, by decide +kernel, by decide +kernel, by decide +kernel⟩, fun self => by rw [refuseLoop_ref]; exact F.store_ValueError.passes self⟩ b
theorem oxc_vs {U : Addr} (xL : K.lookup C = some (excClassObj nm q C N bs [.ref U, .type "ValueError", .type "Exception", .type "BaseException", .type "object"] true sn sub ab col dd k0 k1 k2 k3 k5 "ValueError.__new__")) (b : clB K C = true) : OxC K C :=
  oxc_of ⟨nm, q, N, bs, _, sn, sub, ab, col, dd, k0, k1, k2, k3, k5, _, _, _, _, xL, PySem.F.excBase_ValueError, ⟨by rfl, by rfl, by rfl, by rfl⟩, fun self => by rw [refuseLoop_ref, refuseLoop_ref]; exact F.store_ValueError.passes self⟩ b
theorem oxc_ke (xL : K.lookup C = some (excClassObj nm q C N bs [.type "KeyError", .type "LookupError", .type "Exception", .type "BaseException", .type "object"] true sn sub ab col dd k0 k1 k2 k3 k5 "LookupError.__new__")) (b : clB K C = true) : OxC K C :=
  oxc_of ⟨nm, q, N, bs, _, sn, sub, ab, col, dd, k0, k1, k2, k3, k5, _, _, _, _, xL, PySem.F.excBase_LookupError, ⟨by decide +kernel, by decide +kernel, by decide +kernel, by decide +kernel⟩, fun self => by rw [refuseLoop_ref]; kernel_rfl⟩ b
end
end Un

/-! UnSt: defs with defaults as they stand; isinstance of own classes; an own error raised. -/
namespace Un
open PySem PySem.Spec PyProof.Rows L2
def AtD (K : PySem.W.Frag) (C : Addr) (m qual : Str) (st : Stmt) (dvs : List V) (kws : List (Str × V)) : Prop :=
  ∃ (f : Addr) (fd : FuncData), FunD K m qual (defArgs st) (defBody st) (defScope st) dvs kws f fd ∧ Meth K C m f ∧ PySem.W.fnIn K f = true
/-- an __init__ whose one default is the empty tuple of the text -/
def AtI (K : PySem.W.Frag) (C : Addr) (m qual : Str) (st : Stmt) : Prop :=
  ∃ (f T : Addr) (fd : FuncData), FunD K m qual (defArgs st) (defBody st) (defScope st) [.ref T] [] f fd ∧ L2.Mk K C f ∧ ∃ o : Obj, K.lookup T = some o ∧ o.cls = .type "tuple" ∧ o.data = .seq #[] 0 ∧ o.dict = none
/-- isinstance of instances of the class at C, and of other things -/
structure InsK (K : PySem.W.Frag) (C : Addr) : Prop where
  ha : PySem.W.findIn K (.ref C) "__class__" = some (some (.builtin "object.__class__"))
  hn : PySem.W.specialIn K (.builtin "object.__class__") "__get__" = some (some (.builtin "getset_descriptor.__get__"))
  htk : PySem.W.takesIn K (.builtin "object.__class__") = some true
  hm : PySem.W.mroIn K C (.type "object") = some true
  me : PySem.W.kitOne K (.ref C) (.ref C) = some true
  no : ∀ T, T ∈ ["list", "dict", "tuple", "str", "int", "bool", "NoneType"] → PySem.W.kitOne K (.type T) (.ref C) = some false ∧ PySem.W.notFirst K C (.type T) = true
  nf : PySem.W.notFirst K C (.ref C) = true
def insB (K : PySem.W.Frag) (C : Addr) : Bool :=
  decide (PySem.W.findIn K (.ref C) "__class__" = some (some (.builtin "object.__class__"))) && (decide (PySem.W.specialIn K (.builtin "object.__class__") "__get__" = some (some (.builtin "getset_descriptor.__get__"))) && (decide (PySem.W.takesIn K (.builtin "object.__class__") = some true) &&
  (decide (PySem.W.mroIn K C (.type "object") = some true) && (decide (PySem.W.kitOne K (.ref C) (.ref C) = some true) && ((["list", "dict", "tuple", "str", "int", "bool", "NoneType"].all fun T => decide (PySem.W.kitOne K (.type T) (.ref C) = some false) && PySem.W.notFirst K C (.type T)) && PySem.W.notFirst K C (.ref C))))))
theorem insB_ok {K : PySem.W.Frag} {C : Addr} (b : insB K C = true) : InsK K C := by
  obtain ⟨h1, b⟩ := Bool.and_eq_true_iff.mp b
  obtain ⟨h2, b⟩ := Bool.and_eq_true_iff.mp b
  obtain ⟨h3, b⟩ := Bool.and_eq_true_iff.mp b
  obtain ⟨h4, b⟩ := Bool.and_eq_true_iff.mp b
  obtain ⟨h5, b⟩ := Bool.and_eq_true_iff.mp b
  obtain ⟨h6, h7⟩ := Bool.and_eq_true_iff.mp b
  refine ⟨of_decide_eq_true h1, of_decide_eq_true h2, of_decide_eq_true h3, of_decide_eq_true h4, of_decide_eq_true h5, fun T hT => ?_, h7⟩
  have := List.all_eq_true.mp h6 T hT
  obtain ⟨a, c⟩ := Bool.and_eq_true_iff.mp this
  exact ⟨of_decide_eq_true a, c⟩
section
variable {K : PySem.W.Frag} {H : Hp} {Q : VK} {a C dx : Addr} {fs : List (Str × V)}
theorem rd_isO (h : H a = some (.ins C dx fs)) (c : Cls K C) (i : InsK K C) (q : Q (.bl true) H) : rIsi K [.ref a, .ref C] H Q := ⟨.ref a, .ref C, .ref C, .ref C, true, rfl, .own C, .base (.ins h c i.ha i.hn i.htk i.hm), i.me, q⟩
theorem rd_isNo {x : V} {T : String} (h : TyX K H x (.type T)) (i : InsK K C) (hT : T ∈ ["list", "dict", "tuple", "str", "int", "bool", "NoneType"]) (q : Q (.bl false) H) : rIsi K [x, .ref C] H Q := ⟨x, .ref C, .type T, .ref C, false, rfl, .own C, h, (i.no T hT).1, q⟩
end
section
variable {X : Cx} {x f : Str} {C : Addr} {k j : Nat} {e : Expr} {te : TE} {p pos : Pos}
/-- raise C(e), the class under its name -/
theorem pmk_G (g : Un.Mk X.prog X.w X.K X.mg X.base x f C) (hr : Room j X.A) (hk : 2 ≤ j) (hg : Gl X x) (ha : PE X e te)
    (hdb : (x == ("__debug__" : Str)) = false := by decide) (he : starEach (e :: []) X.env = (false, eval e X.env) :: starEach [] X.env := by rfl) (hpl : (backTo pos (starEach [] X.env)).any (·.1) = false := by rfl) :
    PMk X (.Call (.Name x p) [e] [] pos) (tMkR C f te) := by
  obtain ⟨m, o, n, fI, fd, i, t, F, b⟩ := g
  exact pmk_X o i t n F (hr.mono hk) b pass0 hg m ha hdb he hpl
end
section
variable {X : Cx} {CX : CXT} {k j n : Nat} {C : Addr} {ks : List Str} {sp : Sp} {m : Str} {apos pos : Pos} {o e : Expr} {es : List Expr} {kws : List Keyword} {ta : TE} {t tk : TA} {gV : List V → List V → List V}
/-- a method called with keywords, bundled -/
def MetK (P : Program) (w : World) (K : PySem.W.Frag) (mg : Str → Option Value) (base : Heap) (C : Addr) (m : Str) (n : Nat) (ks : List Str) (k : Nat) (sp : Sp) (gV : List V → List V → List V) : Prop :=
  ∃ (f : Addr) (fd : FuncData) (ps : List Str) (g : List Value → List Value → List Value), Cls K C ∧ Meth K C m f ∧ FnOk P w K mg base CX0 k f fd ps sp ∧ KBn K fd ps n ks g gV
theorem methN_G {pl : Sem Bool} (q : MetK X.prog X.w X.K X.mg X.base C m n ks k sp gV) (hr : Room j X.A) (hk : k ≤ j) (he : PE X o ta) (ha : PA X (e :: es) t) (hkw : PK X kws tk)
    (hall : (backToKw pos (keywordEach kws X.env)).all (·.1.isSome) = true := by rfl) (hks : (backToKw pos (keywordEach kws X.env)).filterMap (·.1) = ks := by rfl)
    (hst : starEach (e :: es) X.env = (false, eval e X.env) :: starEach es X.env := by rfl)
    (hpl : ((backTo pos (starEach (e :: es) X.env)).any (·.1) || (backToKw pos (keywordEach kws X.env)).any (·.1.isNone)) = false := by rfl)
    (ht : eval (.Call (.Attribute o m apos) (e :: es) kws pos) X.env = (do let ov ← eval o X.env; standAt apos.atName; let (f, first) ← holding [ov] (getMethod ov m pl); callWith pos f first (backTo pos (starEach (e :: es) X.env)) (backToKw pos (keywordEach kws X.env))) := by rfl) :
    PE X (.Call (.Attribute o m apos) (e :: es) kws pos) (tMethN C m n ks.length sp gV E0 ta t tk) := by
  obtain ⟨f, fd, ps, g, c, M, F, b⟩ := q
  exact pe_methN (pl := pl) he c M F (hr.mono hk) b pass0 ha hkw hall hks hst hpl ht
end
end Un

/-! UnRdM: readings of instances and dicts, step by step. -/
namespace Un
open PySem PySem.Spec PyProof.Rows L2
section
variable {K : PySem.W.Frag} {σ : L2.St} {H : Hp} {Q : VK} {D : Ends} {ta tb te td ty tv tz : TE} {t tk : TA} {f m : Str} {C : Addr} {sp : Sp} {dvs : List V} {E : XK} {n l : Nat} {gV : List V → List V → List V}
theorem rd_fld (h : ta σ H fun x H1 => ∃ a C dx fs v, x = .ref a ∧ H1 a = some (.ins C dx fs) ∧ Cls K C ∧ NoAttr K C f ∧ fs.lookup f = some v ∧ Q v H1) : tFld K ta f σ H Q := h
theorem rd_sfld (h : tv σ H fun y H1 => ta σ H1 fun x H2 => ∃ a C dx fs, x = .ref a ∧ H2 a = some (.ins C dx fs) ∧ Cls K C ∧ NoAttr K C f ∧ fs.length < 1000 ∧ D.nx σ (upd H2 a (.ins C dx (putF f y fs)))) : sFld K ta tv f D σ H := h
theorem rd_dput (h : tv σ H fun v H1 => td σ H1 fun x H2 => ty σ H2 fun y H3 => ∃ a H4, x = .ref a ∧ DPut H3 a y v H4 ∧ D.nx σ H4) : sDPut td ty tv D σ H := h
theorem rd_dget (h : td σ H fun x H1 => ty σ H1 fun y H2 => ∃ a v, x = .ref a ∧ DGet H2 a y (some v) ∧ Q v H2) : tDGet td ty σ H Q := h
theorem rd_din (h : ty σ H fun y H1 => td σ H1 fun x H2 => ∃ a o, x = .ref a ∧ DGet H2 a y o ∧ Q (.bl o.isSome) H2) : tDIn ty td σ H Q := h
theorem rd_dnotin (h : ty σ H fun y H1 => td σ H1 fun x H2 => ∃ a o, x = .ref a ∧ DGet H2 a y o ∧ Q (.bl (!o.isSome)) H2) : tDNotIn ty td σ H Q := h
theorem rd_ddel (h : td σ H fun x H1 => ty σ H1 fun y H2 => ∃ a kvs k, x = .ref a ∧ H2 a = some (.dK kvs) ∧ y = kV k ∧ (valV kvs k).isSome = true ∧ D.nx σ (upd H2 a (.dK (dropK kvs k)))) : sDDel td ty D σ H := h
theorem rd_dnew (h : ∀ p, H p = none → Q (.ref p) (upd H p (.dK []))) : tDNewK σ H Q := h
theorem rd_make (h : t σ H fun vs H1 => ∀ x dx, H1 x = none → H1 dx = none → dx ≠ x → sp (.ref x :: (vs ++ dvs)) (upd (upd H1 dx (.own x)) x (.ins C dx [])) (fun v H2 => v = .non ∧ Q (.ref x) H2) E) : tMake C sp dvs E t σ H Q := h
theorem rd_meth (h : ta σ H fun x H1 => ∃ a dx fs, x = .ref a ∧ H1 a = some (.ins C dx fs) ∧ fs.lookup m = none ∧ t σ H1 fun vs H2 => sp (x :: (vs ++ dvs)) H2 Q E) : tMeth C m sp dvs E ta t σ H Q := h
theorem rd_methN (h : ta σ H fun x H1 => ∃ a dx fs, x = .ref a ∧ H1 a = some (.ins C dx fs) ∧ fs.lookup m = none ∧ t σ H1 fun vs H2 => tk σ H2 fun zs H3 => vs.length + 1 = n ∧ zs.length = l ∧ sp (gV (x :: vs) zs) H3 Q E) : tMethN C m n l sp gV E ta t tk σ H Q := h
theorem rd_iKeys {R : It → Hp → Prop} (h : td σ H fun x H1 => ∃ d o, x = .ref d ∧ ((∃ kvs, H1 d = some (.frz o (.dK kvs)) ∧ R (Itk d o kvs) H1) ∨ ∃ kvs, H1 d = some (.frz o (.dT kvs)) ∧ R (Itkt d o kvs) H1)) : iKeys td σ H R := h
theorem rd_items (h : te σ H fun x H1 => LiI.rItemsL x H1 Q) : LiI.tListItems te σ H Q := h
theorem rd_mkR {Q : XK} (h : te σ H fun v H1 => ∀ d, H1 d = none → Q (.ref C) (some d) (upd H1 d (.xd [(f, v)]))) : tMkR C f te σ H Q := h
theorem rd_pop1 (h : td σ H fun x H1 => ∃ a, x = .ref a ∧ IsD H1 a ∧ ty σ H1 fun y H2 => ∃ kvs k v, H2 a = some (.dK kvs) ∧ y = kV k ∧ valV kvs k = some v ∧ Q v (upd H2 a (.dK (dropK kvs k)))) : tDPop1 td ty σ H Q := h
theorem rd_get2 (h : td σ H fun x H1 => ∃ a, x = .ref a ∧ IsD H1 a ∧ ty σ H1 fun y H2 => tz σ H2 fun z H3 => ∃ o, DGet H3 a y o ∧ Q (o.getD z) H3) : tDGet2 td ty tz σ H Q := h
theorem rd_fldS {a dx : Addr} {fs : List (Str × V)} {v : V} (h : H a = some (.ins C dx fs)) (c : Cls K C) (n : NoAttr K C f) (l : fs.lookup f = some v) (q : Q v H) : ∃ a' C' dx' fs' v', V.ref a = .ref a' ∧ H a' = some (.ins C' dx' fs') ∧ Cls K C' ∧ NoAttr K C' f ∧ fs'.lookup f = some v' ∧ Q v' H := ⟨a, C, dx, fs, v, rfl, h, c, n, l, q⟩
theorem rd_isB {x : V} {T T' : String} {b : Bool} (h : TyX K H x (.type T)) (k : PySem.W.kitOne K (.type T) (.type T') = some b) (q : Q (.bl b) H) : rIsi K [x, .ty T'] H Q := ⟨x, .ty T', .type T, .type T', b, rfl, .ty _, h, k, q⟩
theorem rd_gtX {a b : List Nat} (q : Q (.bl (decide (b < a))) H) : rGtX (.str (tx a)) (.str (tx b)) H Q := ⟨a, b, rfl, rfl, q⟩
end
end Un

/-! UnPr: stretches of keys, lists of pairs. -/
namespace Un
open PySem PySem.Spec PyProof.Rows L2
theorem okN {P : Program} {w : World} {K : PySem.W.Frag} {mg : Str → Option Value} {base : Heap} {x qual : Str} {params : Arguments} {body : List Stmt} {scope : Scope} {dvs : List V} {kws : List (Str × V)} {f : Addr} {fd : FuncData} {CX : CXT} {N ps : List Str} {k : Nat} {sp : Sp}
    (F : FunD K x qual params body scope dvs kws f fd) (S : FnScope N ps scope) (len : ∀ vs H Q E, sp vs H Q E → vs.length = ps.length)
    (hbody : ∀ (cdv : Value) (A : Around) (outer : List Env) (s : Shared) (H : Hp) (vs : List V) (Q : VK) (E : XK), Room k (A.deeper (envOfC qual scope s.heap.objs.size f cdv)) → sp vs H Q E →
      ∃ t, PSs (cxOf CX P w K mg base N qual scope f cdv A outer s H E).nox body t ∧ t { nx := fun _ H' => Q .non H', rt := Q } (start N vs) H) : FnOk P w K mg base CX (k + 1) f fd ps sp :=
  F.ok S len fun cdv A outer s H vs Q E hr h => by
    obtain ⟨t, ht, q⟩ := hbody cdv A outer s H vs Q E hr h
    exact ⟨t, ht.nox, q⟩
def bnd : Option (List Nat) → V
  | none => .non
  | some u => .str (tx u)
def upB (hi : Option (List Nat)) (k : List Nat) : Bool := match hi with | none => true | some h => decide (k < h)
def afB (af : Option (List Nat)) (k : List Nat) : Bool := match af with | none => true | some a => decide (a < k)
def inR (lo : List Nat) (hi af : Option (List Nat)) (k : List Nat) : Bool := !decide (k < lo) && (upB hi k && afB af k)
/-- the keys of a stretch, ascending -/
def KR (m : Tab) (lo : List Nat) (hi af : Option (List Nat)) (ks : List (List Nat)) : Prop := ks.Perm ((keysT m).filter (inR lo hi af)) ∧ ks.Pairwise fun a b => ¬ b < a
theorem KR.uniq {m : Tab} {lo : List Nat} {hi af : Option (List Nat)} {ks js : List (List Nat)} (a : KR m lo hi af ks) (b : KR m lo hi af js) : ks = js := sort_unique (a.1.trans b.1.symm) a.2 b.2
theorem KR.mem {m : Tab} {lo : List Nat} {hi af : Option (List Nat)} {ks : List (List Nat)} (a : KR m lo hi af ks) {k : List Nat} (h : k ∈ ks) : k ∈ keysT m := (List.mem_filter.mp (a.1.mem_iff.mp h)).1
theorem KR.len {m : Tab} {lo : List Nat} {hi af : Option (List Nat)} {ks : List (List Nat)} (a : KR m lo hi af ks) : ks.length ≤ m.length := by
  rw [a.1.length_eq]
  have := List.length_filter_le (inR lo hi af) (keysT m)
  unfold keysT at this
  rw [List.length_map] at this
  exact this
/-- the pairs of some keys -/
def prT (m : Tab) (ks : List (List Nat)) : Tab := ks.map fun k => (k, (getT m k).getD 0)
theorem prT_len (m : Tab) (ks : List (List Nat)) : (prT m ks).length = ks.length := List.length_map _
/-- tuples of a key and a value -/
def PrV (H : Hp) (p : List Nat × Int) (v : V) : Prop := ∃ T, v = .ref T ∧ H T = some (.tup [.str (tx p.1), .int p.2])
def Prs (H : Hp) (m : Tab) (vs : List V) : Prop := Paired (PrV H) m vs
theorem PrV.keep {H H' : Hp} {p : List Nat × Int} {v : V} (h : PrV H p v) (s : ∀ T, v = .ref T → H T = some (.tup [.str (tx p.1), .int p.2]) → H' T = some (.tup [.str (tx p.1), .int p.2])) : PrV H' p v := by
  obtain ⟨T, rfl, h⟩ := h
  exact ⟨T, rfl, s T rfl h⟩
theorem Prs.keep {H H' : Hp} (s : ∀ T l, H T = some (.tup l) → H' T = some (.tup l)) : ∀ {m : Tab} {vs : List V}, Prs H m vs → Prs H' m vs
  | _, _, .nil => .nil
  | _, _, .cons h t => .cons (h.keep fun T _ e => s T _ e) (Prs.keep s t)
theorem Prs.same {H H' : Hp} {m : Tab} {vs : List V} (h : Prs H m vs) (s : Same H H') : Prs H' m vs := h.keep fun T l e => s _ _ e
theorem Prs.len {H : Hp} {m : Tab} {vs : List V} (h : Prs H m vs) : m.length = vs.length := Paired.length h
theorem Prs.app {H : Hp} : ∀ {m n : Tab} {vs ws : List V}, Prs H m vs → Prs H n ws → Prs H (m ++ n) (vs ++ ws)
  | _, _, _, _, .nil, b => b
  | _, _, _, _, .cons h t, b => .cons h (Prs.app t b)
theorem Prs.one {H : Hp} {p : List Nat × Int} {T : Addr} (h : H T = some (.tup [.str (tx p.1), .int p.2])) : Prs H [p] [.ref T] := .cons ⟨T, rfl, h⟩ .nil
theorem Prs.take {H : Hp} : ∀ {m : Tab} {vs : List V} (n : Nat), Prs H m vs → Prs H (m.take n) (vs.take n)
  | _, _, 0, _ => .nil
  | _, _, n + 1, .nil => .nil
  | _, _, n + 1, .cons h t => .cons h (Prs.take n t)
theorem Prs.get {H : Hp} : ∀ {m : Tab} {vs : List V} {i : Nat} {v : V}, Prs H m vs → vs[i]? = some v → ∃ p, m[i]? = some p ∧ PrV H p v
  | _, _, 0, _, .cons h t, e => ⟨_, rfl, by cases e; exact h⟩
  | _, _, i + 1, _, .cons h t, e => by
    obtain ⟨p, e1, e2⟩ := Prs.get (i := i) t (by simpa using e)
    exact ⟨p, by simpa using e1, e2⟩
/-- what stands where a sequence is read -/
def SeqO (us : List V) (o : HO) : Prop := o = .lst us ∨ o = .tup us ∨ (∃ x, o = .frz x (.lst us)) ∨ ∃ x, o = .frz x (.tup us)
def Seq1 (K : PySem.W.Frag) (H : Hp) (p : Addr) (us : List V) : Prop := SqL K H p us ∨ SqT K H p us
theorem SeqL.keep {K : PySem.W.Frag} {H H' : Hp} {p : Addr} {us : List V} (hp : SqL K H p us) (k : ∀ o, SeqO us o → H p = some o → H' p = some o) : SqL K H' p us := by
  rcases hp with (h | ⟨o, h⟩) | h
  · exact .inl (.inl (k _ (.inl rfl) h))
  · exact .inl (.inr ⟨o, k _ (.inr (.inr (.inl ⟨_, rfl⟩))) h⟩)
  · exact .inr h
theorem SeqT.keep {K : PySem.W.Frag} {H H' : Hp} {p : Addr} {us : List V} (hp : SqT K H p us) (k : ∀ o, SeqO us o → H p = some o → H' p = some o) : SqT K H' p us := by
  rcases hp with (h | ⟨o, h⟩) | h
  · exact .inl (.inl (k _ (.inr (.inl rfl)) h))
  · exact .inl (.inr ⟨o, k _ (.inr (.inr (.inr ⟨_, rfl⟩))) h⟩)
  · exact .inr h
theorem Seq1.keep {K : PySem.W.Frag} {H H' : Hp} {p : Addr} {us : List V} (hp : Seq1 K H p us) (k : ∀ o, SeqO us o → H p = some o → H' p = some o) : Seq1 K H' p us := hp.elim (fun h => .inl (SeqL.keep h k)) (fun h => .inr (SeqT.keep h k))
theorem SeqO.ndK {us : List V} {kvs : List (Key × V)} : ¬ SeqO us (.dK kvs) := by
  rintro (h | h | ⟨_, h⟩ | ⟨_, h⟩) <;> cases h
theorem SeqO.nins {us : List V} {C dx : Addr} {fs : List (Str × V)} : ¬ SeqO us (.ins C dx fs) := by
  rintro (h | h | ⟨_, h⟩ | ⟨_, h⟩) <;> cases h
/-- a walk over a list or a tuple -/
theorem rd_iSeqF {K : PySem.W.Frag} {tl : TE} {σ : L2.St} {H : Hp} {R : It → Hp → Prop} {p : Addr} {us : List V} (hv : ∀ Q : VK, Q (.ref p) H → tl σ H Q) (hp : Seq1 K H p us)
    (q : ∀ (J : It) (G : Hp → Prop), Walk J us.length G (YAt us) → (∀ H', (∀ o, SeqO us o → H p = some o → H' p = some o) → G H') → R J H) : iSeq K tl σ H R := by
  rcases hp with hp | hp
  · exact .inl (rd_iList (hv _ ⟨p, rfl, ⟨us, hp⟩, q _ _ walk_list fun H' k => SeqL.keep hp k⟩))
  · exact .inr (rd_iTup (hv _ ⟨p, rfl, ⟨us, hp⟩, q _ _ walk_tup fun H' k => SeqT.keep hp k⟩))
/-! ### many keys taken away, or put -/
def dropsT (m : Tab) (ks : List (List Nat)) : Tab := ks.foldl dropT m
def putsT (m : Tab) (ks : List (List Nat)) (v : Int) : Tab := ks.foldl (fun m k => putT m k v) m
theorem drops_snoc {m : Tab} {ks : List (List Nat)} {i : Nat} {k : List Nat} (h : ks[i]? = some k) : dropsT m (ks.take (i + 1)) = dropT (dropsT m (ks.take i)) k := by
  unfold dropsT
  rw [List.take_add_one, h, Option.toList_some, List.foldl_append]
  rfl
theorem puts_snoc {m : Tab} {ks : List (List Nat)} {i : Nat} {k : List Nat} {v : Int} (h : ks[i]? = some k) : putsT m (ks.take (i + 1)) v = putT (putsT m (ks.take i) v) k v := by
  unfold putsT
  rw [List.take_add_one, h, Option.toList_some, List.foldl_append]
  rfl
theorem mem_drop {m : Tab} {j k : List Nat} : k ∈ keysT (dropT m j) ↔ k ∈ keysT m ∧ k ≠ j := by
  unfold keysT dropT
  rw [List.mem_map, List.mem_map]
  constructor
  · rintro ⟨p, hp, rfl⟩
    obtain ⟨h1, h2⟩ := List.mem_filter.mp hp
    exact ⟨⟨p, h1, rfl⟩, of_decide_eq_true h2⟩
  · rintro ⟨⟨p, hp, rfl⟩, h⟩
    exact ⟨p, List.mem_filter.mpr ⟨hp, decide_eq_true h⟩, rfl⟩
theorem mem_drops {k : List Nat} : ∀ {ks : List (List Nat)} {m : Tab}, k ∈ keysT (dropsT m ks) ↔ k ∈ keysT m ∧ k ∉ ks
  | [], m => by simp [dropsT]
  | j :: r, m => by
    have h := mem_drops (k := k) (ks := r) (m := dropT m j)
    show k ∈ keysT (dropsT (dropT m j) r) ↔ _
    rw [h, mem_drop, List.mem_cons]
    constructor
    · rintro ⟨⟨a, b⟩, c⟩
      exact ⟨a, fun e => e.elim b c⟩
    · rintro ⟨a, b⟩
      exact ⟨⟨a, fun e => b (.inl e)⟩, fun e => b (.inr e)⟩
theorem drops_nodup : ∀ {ks : List (List Nat)} {m : Tab}, (keysT m).Nodup → (keysT (dropsT m ks)).Nodup
  | [], _, h => h
  | _ :: r, _, h => drops_nodup (ks := r) (dropT_nodup h)
theorem drops_len : ∀ {ks : List (List Nat)} {m : Tab}, (dropsT m ks).length ≤ m.length
  | [], _ => Nat.le_refl _
  | j :: r, m => Nat.le_trans (drops_len (ks := r) (m := dropT m j)) (List.length_filter_le _ _)
theorem puts_keys {v : Int} : ∀ {ks : List (List Nat)} {m : Tab}, (∀ k ∈ ks, k ∈ keysT m) → keysT (putsT m ks v) = keysT m
  | [], _, _ => rfl
  | j :: r, m, h => by
    have e : keysT (putT m j v) = keysT m := by rw [putT_keys, if_pos (h j List.mem_cons_self)]
    show keysT (putsT (putT m j v) r v) = _
    rw [puts_keys (ks := r) (fun k hk => by rw [e]; exact h k (List.mem_cons_of_mem _ hk)), e]
theorem keys_len (m : Tab) : (keysT m).length = m.length := List.length_map _
theorem KR.nodup {m : Tab} {lo : List Nat} {hi af : Option (List Nat)} {ks : List (List Nat)} (a : KR m lo hi af ks) (h : (keysT m).Nodup) : ks.Nodup := (a.1.nodup_iff).mpr (h.sublist List.filter_sublist)
theorem not_before {α : Type} {l : List α} {i : Nat} {x : α} (h : l.Nodup) (hx : l[i]? = some x) : x ∉ l.take i := by
  intro hm
  obtain ⟨j, hj⟩ := List.mem_iff_getElem?.mp hm
  rw [List.getElem?_take] at hj
  split at hj
  · rename_i hji
    have e : l[i]? = l[j]? := by rw [hx, hj]
    have hil : i < l.length := (List.getElem?_eq_some_iff.mp hx).1
    have := (List.getElem?_inj hil h).mp e
    omega
  · cases hj
/-- pairs put one behind another -/
def putsP (m : Tab) (ps : Tab) : Tab := ps.foldl (fun m p => putT m p.1 p.2) m
theorem putsP_snoc {m ps : Tab} {i : Nat} {p : List Nat × Int} (h : ps[i]? = some p) : putsP m (ps.take (i + 1)) = putT (putsP m (ps.take i)) p.1 p.2 := by
  unfold putsP
  rw [List.take_add_one, h, Option.toList_some, List.foldl_append]
  rfl
theorem putT_len (m : Tab) (k : List Nat) (v : Int) : (putT m k v).length ≤ m.length + 1 := by
  rw [← keys_len, ← keys_len, putT_keys]
  split
  · omega
  · simp
theorem putsP_len : ∀ (ps m : Tab), (putsP m ps).length ≤ m.length + ps.length
  | [], _ => Nat.le_refl _
  | p :: r, m => by
    have h1 := putsP_len r (putT m p.1 p.2)
    have h2 := putT_len m p.1 p.2
    show (putsP (putT m p.1 p.2) r).length ≤ _
    rw [List.length_cons]
    omega
theorem putsP_nodup : ∀ {ps m : Tab}, (keysT m).Nodup → (keysT (putsP m ps)).Nodup
  | [], _, h => h
  | _ :: r, _, h => putsP_nodup (ps := r) (putT_nodup h)
theorem prs_of_items {H : Hp} : ∀ {m : Tab} {ts : List Addr}, Paired (fun (t : Addr) (q : Key × V) => H t = some (.tup [kV q.1, q.2])) ts (encT m) → Prs H m (ts.map V.ref)
  | [], _, h => by
    cases h
    exact .nil
  | _ :: _, _, h => by
    cases h with
    | cons a b => exact .cons ⟨_, rfl, a⟩ (prs_of_items b)
theorem putT_new {m : Tab} {k : List Nat} {v : Int} (h : k ∉ keysT m) : putT m k v = m ++ [(k, v)] := by
  unfold putT
  rw [if_neg]
  rw [List.any_eq_true]
  rintro ⟨p, hp, e⟩
  exact h (List.mem_map.mpr ⟨p, hp, of_decide_eq_true e⟩)
theorem putsP_same : ∀ (m acc : Tab), (keysT (acc ++ m)).Nodup → putsP acc m = acc ++ m
  | [], acc, _ => (List.append_nil acc).symm
  | p :: r, acc, h => by
    have h1 : p.1 ∉ keysT acc := fun hm => by
      unfold keysT at h hm
      rw [List.map_append] at h
      exact (List.nodup_append.mp h).2.2 p.1 hm p.1 List.mem_cons_self rfl
    show putsP (putT acc p.1 p.2) r = _
    rw [putT_new h1]
    have e : acc ++ p :: r = (acc ++ [(p.1, p.2)]) ++ r := by simp
    rw [e] at h ⊢
    exact putsP_same r _ h
theorem cutL_take (xs : List Nat) (n : Nat) : cutL xs none (some (n : Int)) = xs.take n := by
  unfold cutL
  rw [HT.sIx_none, HT.sIx_nat, List.drop_zero, Nat.sub_zero]
  by_cases h : n ≤ xs.length
  · rw [Nat.min_eq_left h]
  · rw [Nat.min_eq_right (by omega), List.take_length, List.take_of_length_le (by omega)]
theorem reps_mem {l : List Nat} {c n : Nat} (h : c ∈ reps n l) : c ∈ l := by
  unfold reps at h
  obtain ⟨x, h1, h2⟩ := List.mem_flatten.mp h
  rw [(List.mem_replicate.mp h1).2] at h2
  exact h2
/-- as data -/
def pD (p : List Nat × Int) : PyData := .tuple [.str (tx p.1), .int p.2]
theorem rd_lock {t : TE} {σ : L2.St} {H : Hp} {Q : VK} {d : Addr} {u : HO} (h : H d = some u) (mt : Mut (some u)) (q : ∀ od, t σ (upd H d (.frz od u)) fun v H' => H' d = some (.frz od u) ∧ Q v (upd H' d u)) : tLockE t σ H Q := ⟨d, u, h, mt, q⟩
theorem txs_of : ∀ (ys : List Str), ∃ ks : List (List Nat), ys = ks.map tx
  | [] => ⟨[], rfl⟩
  | z :: r => by
    obtain ⟨ks, e⟩ := txs_of r
    exact ⟨z.cps.toList :: ks, by rw [List.map_cons, tx_of, ← e]⟩
theorem rd_sortT {K : PySem.W.Frag} {H : Hp} {Q : VK} {a : Addr} {ks : List (List Nat)} (hs : SqL K H a (ks.map fun k => V.str (tx k)))
    (q : ∀ (js : List (List Nat)) (p : Addr), js.Perm ks → js.Pairwise (fun a b => ¬ b < a) → H p = none → Q (.ref p) (upd H p (.lst (js.map fun k => V.str (tx k))))) : rSortedT K [.ref a] H Q := by
  refine ⟨a, ks.map tx, rfl, by rw [List.map_map]; exact hs, fun ys p hp hss hn => ?_⟩
  obtain ⟨js, rfl⟩ := txs_of ys
  rw [List.map_map]
  exact q js p (by
    have h := hp.map fun z => z.cps.toList
    rw [List.map_map, List.map_map] at h
    have e : ∀ l : List (List Nat), l.map ((fun z => z.cps.toList) ∘ tx) = l := fun l => by
      conv => rhs; rw [← List.map_id l]
      congr 1
    rw [e, e] at h
    exact h) (sortedS_le hss) hn
theorem pe_fldK {X : Cx} {e : Expr} {ta : TE} {f : Str} {pos : Pos} {K : PySem.W.Frag} (hK : X.K = K) (he : PE X e ta) (hb : attributeBase e f X.env (eval e X.env) = eval e X.env) : PE X (.Attribute e f pos) (tFld K ta f) := by
  subst hK
  exact pe_fld he hb
theorem same_none {H H' : Hp} {p : Addr} (s : Same H H') (h : H' p = none) : H p = none := by
  cases z : H p with
  | none => rfl
  | some o =>
    rw [s _ _ z] at h
    cases h
theorem cutV_take (xs : List V) (n : Nat) : cutV xs none (some (n : Int)) = xs.take n := by
  unfold cutV
  rw [HT.sIx_none, HT.sIx_nat, List.drop_zero, Nat.sub_zero]
  by_cases h : n ≤ xs.length
  · rw [Nat.min_eq_left h]
  · rw [Nat.min_eq_right (by omega), List.take_length, List.take_of_length_le (by omega)]
/-- low <= key and (high is None or key < high) and (after is None or key > after) -/
theorem rd_up {σ : L2.St} {H : Hp} {Q : Bool → Hp → Prop} {h j : Nat} {k : List Nat} {hi : Option (List Nat)} (e2 : σ[h]? = some (some (bnd hi))) (e1 : σ[j]? = some (some (.str (tx k)))) (q : Q (upB hi k) H) :
    tOr (tTest (tOp rIsN1 (tVar h) (tC V.non))) (tTest (tOp rLtX (tVar j) (tVar h))) σ H Q := by
  refine rd_or (rd_test (rd_op (rd_var e2 (rd_c (rd_isN1 (rd_bl ?_))))))
  cases hi with
  | none => exact q
  | some u =>
    refine rd_ite (fun h => by cases h) (fun _ => ?_)
    exact rd_test (rd_op (rd_var e1 (rd_var e2 (rd_ltX (rd_bl q)))))
theorem rd_af {σ : L2.St} {H : Hp} {Q : Bool → Hp → Prop} {h j : Nat} {k : List Nat} {af : Option (List Nat)} (e2 : σ[h]? = some (some (bnd af))) (e1 : σ[j]? = some (some (.str (tx k)))) (q : Q (afB af k) H) :
    tOr (tTest (tOp rIsN1 (tVar h) (tC V.non))) (tTest (tOp rGtX (tVar j) (tVar h))) σ H Q := by
  refine rd_or (rd_test (rd_op (rd_var e2 (rd_c (rd_isN1 (rd_bl ?_))))))
  cases af with
  | none => exact q
  | some u =>
    refine rd_ite (fun h => by cases h) (fun _ => ?_)
    exact rd_test (rd_op (rd_var e1 (rd_var e2 (rd_gtX (rd_bl q)))))
theorem rd_stretch {σ : L2.St} {H : Hp} {Q : Bool → Hp → Prop} {l h g j : Nat} {lo k : List Nat} {hi af : Option (List Nat)} (e0 : σ[l]? = some (some (.str (tx lo)))) (e2 : σ[h]? = some (some (bnd hi))) (e3 : σ[g]? = some (some (bnd af)))
    (e1 : σ[j]? = some (some (.str (tx k)))) (q : Q (inR lo hi af k) H) :
    tAnd (tTest (tOp rLeX (tVar l) (tVar j))) (tAnd (tOr (tTest (tOp rIsN1 (tVar h) (tC V.non))) (tTest (tOp rLtX (tVar j) (tVar h)))) (tOr (tTest (tOp rIsN1 (tVar g) (tC V.non))) (tTest (tOp rGtX (tVar j) (tVar g))))) σ H Q := by
  refine rd_and (rd_test (rd_op (rd_var e0 (rd_var e1 (rd_leX (rd_bl ?_))))))
  unfold inR at q
  refine rd_ite (fun h1 => ?_) (fun h1 => ?_)
  · rw [h1, Bool.true_and] at q
    refine rd_and (rd_up e2 e1 ?_)
    refine rd_ite (fun h2 => ?_) (fun h2 => ?_)
    · rw [h2, Bool.true_and] at q
      exact rd_af e3 e1 q
    · rw [h2, Bool.false_and] at q
      exact q
  · rw [h1, Bool.false_and] at q
    exact q
theorem filt_snoc {α : Type} {l : List α} {i : Nat} {x : α} {p : α → Bool} (h : l[i]? = some x) (hp : p x = true) : (l.take (i + 1)).filter p = (l.take i).filter p ++ [x] := by
  rw [List.take_add_one, h, Option.toList_some, List.filter_append]
  simp [hp]
theorem filt_skip {α : Type} {l : List α} {i : Nat} {x : α} {p : α → Bool} (h : l[i]? = some x) (hp : p x = false) : (l.take (i + 1)).filter p = (l.take i).filter p := by
  rw [List.take_add_one, h, Option.toList_some, List.filter_append]
  simp [hp]
theorem filt_len {α : Type} (l : List α) (i : Nat) (p : α → Bool) : ((l.take i).filter p).length ≤ l.length := by
  have := List.length_filter_le p (l.take i)
  rw [List.length_take] at this
  omega
theorem keys_at {m : Tab} {i : Nat} {k : Key} {v : V} (hk : (encT m)[i]? = some (k, v)) : ∃ key, (keysT m)[i]? = some key ∧ k = Sum.inr (tx key) := by
  unfold encT at hk
  rw [List.getElem?_map] at hk
  cases hmi : m[i]? with
  | none => rw [hmi] at hk; cases hk
  | some p =>
    rw [hmi] at hk
    cases hk
    exact ⟨p.1, by unfold keysT; rw [List.getElem?_map, hmi]; rfl, rfl⟩
end Un

/-! UnZ: repr of lists of pairs. -/
namespace Un
open PySem PySem.Spec PyProof.Rows L2
/-- how a value is shown, and that it can be: depth and weight bounded -/
structure GoodZ (z w : Nat) (d : PyData) : Prop where
  s : d.showable = true
  n : d.hasDict = false
  z : d.depth ≤ z
  l : d.leavesShort 62 = true
  w : d.weight ≤ w
def rReprZ (K : PySem.W.Frag) : List V → Hp → VK → Prop := fun xs H Q => ∃ (x : V) (d : PyData), xs = [x] ∧ Dp K H x d ∧ GoodZ 20 200000 d ∧ Q (.str d.shown) H
theorem call_reprZ {X : Cx} {k : Nat} (hgd : X.A.guards = some []) (hr : Room k X.A) : CallR X (.builtin "repr") (rReprZ X.K) := by
  intro pins s σ H xs us Q I r h
  obtain ⟨x, d, rfl, hd, g, q⟩ := h
  have hsz : d.shown.length ≤ sizeLine := by
    have h1 := PyData.shown_le 62 (by decide) d g.l
    have h2 := g.w
    rw [sizeLine_eq]
    omega
  have base : scalR x → reprS x = d.shown → wpAny (model X.prog X.w) X.A (call (.builtin "repr") us) (EP X pins σ Q) X.xe s := fun h1 h2 => call_reprS pins s σ H [x] us Q I r ⟨x, rfl, h1, by rw [h2]; exact q⟩
  cases hd with
  | non => exact base trivial (by simp only [PyData.shown]; rfl)
  | bl b => exact base trivial (by simp only [PyData.shown]; rfl)
  | int i => exact base (by have h0 := g.s; simp only [PyData.showable, decide_eq_true_eq] at h0; exact h0) (by simp only [PyData.shown]; rfl)
  | str z => exact base (by have := hsz; simp only [PyData.shown] at this; exact this) (by simp only [PyData.shown]; rfl)
  | lst h1 h2 => exact call_reprD hgd hr pins s σ H _ us Q I r ⟨_, _, rfl, .lst h1 h2, g.s, g.n, by have := g.z; omega, hsz, q⟩
  | tup h1 h2 => exact call_reprD hgd hr pins s σ H _ us Q I r ⟨_, _, rfl, .tup h1 h2, g.s, g.n, by have := g.z; omega, hsz, q⟩
theorem rd_reprZ {K : PySem.W.Frag} {H : Hp} {Q : VK} {x : V} {d : PyData} (h : Dp K H x d) (g : GoodZ 20 200000 d) (q : Q (.str d.shown) H) : rReprZ K [x] H Q := ⟨x, d, rfl, h, g, q⟩
theorem GoodZ.mono {z w z' w' : Nat} {d : PyData} (g : GoodZ z w d) (h1 : z ≤ z') (h2 : w ≤ w') : GoodZ z' w' d := ⟨g.s, g.n, Nat.le_trans g.z h1, g.l, Nat.le_trans g.w h2⟩
/-- a pair that may be shown -/
structure OkP (q : List Nat × Int) : Prop where
  k : q.1.length ≤ 300
  c : ∀ c ∈ q.1, c < 1000
  v : q.2.natAbs < 2 ^ 60
theorem int_good {i : Int} (h : i.natAbs < 2 ^ 60) : GoodZ 0 61 (.int i) := by
  have h1 : i.natAbs.log2 < 60 := PySem.Flt.log2_lt_of (by decide) h
  have h2 := PySem.int_text_length_le (a := i) (k := 60) (by decide) h1
  refine ⟨?_, rfl, ?_, ?_, ?_⟩
  · simp only [PyData.showable, decide_eq_true_eq]
    omega
  · simp [PyData.depth]
  · simp only [PyData.leavesShort, PyData.shown]
    refine decide_eq_true ?_
    show (Str.ofString (toString i)).length ≤ 62
    rw [PySem.ofString_length]
    omega
  · simp only [PyData.weight]
    split <;> omega
theorem str_good {l : List Nat} (h : ∀ c ∈ l, c < 1000) : GoodZ 0 l.length (.str (tx l)) := by
  refine ⟨rfl, rfl, by simp [PyData.depth], ?_, ?_⟩
  · simp only [PyData.leavesShort, List.all_eq_true, decide_eq_true_eq]
    intro c hc
    rw [tx_cps] at hc
    have := h c hc
    have e : (1000 : Nat) < 16 ^ 8 := by decide
    omega
  · simp only [PyData.weight]
    simp [tx]
theorem bool_good (b : Bool) : GoodZ 0 0 (.bool b) := by cases b <;> exact ⟨rfl, rfl, by decide +kernel, rfl, by decide +kernel⟩
theorem pair_good {q : List Nat × Int} (o : OkP q) : GoodZ 1 400 (pD q) := by
  have a := str_good o.c
  have b := int_good o.v
  have k := o.k
  unfold pD
  refine ⟨?_, ?_, ?_, ?_, ?_⟩
  · simp only [PyData.showable, PyData.showableAll, Bool.and_eq_true]
    exact ⟨trivial, b.s, trivial⟩
  · simp only [PyData.hasDict, PyData.hasDictAll, Bool.or_false]
  · simp [PyData.depth, PyData.depthAll]
  · simp only [PyData.leavesShort, PyData.leavesShortAll, Bool.and_true, Bool.and_eq_true]
    exact ⟨a.l, b.l⟩
  · have h1 := a.w
    have h2 := b.w
    simp only [PyData.weight, PyData.weightAll] at h1 h2 ⊢
    omega
/-- a list of pairs -/
def plD (m : Tab) : PyData := .list (m.map pD)
theorem plD_all : ∀ {m : Tab}, (∀ q ∈ m, OkP q) → PyData.showableAll (m.map pD) = true ∧ PyData.hasDictAll (m.map pD) = false ∧ PyData.depthAll (m.map pD) ≤ 1 ∧ PyData.leavesShortAll 62 (m.map pD) = true ∧ PyData.weightAll (m.map pD) ≤ 401 * m.length
  | [], _ => by simp [PyData.showableAll, PyData.hasDictAll, PyData.depthAll, PyData.leavesShortAll, PyData.weightAll]
  | q :: r, h => by
    obtain ⟨h1, h2, h3, h4, h5⟩ := plD_all (m := r) fun x hx => h x (List.mem_cons_of_mem _ hx)
    have g := pair_good (h q List.mem_cons_self)
    have gz := g.z
    have gw := g.w
    rw [List.map_cons]
    refine ⟨?_, ?_, ?_, ?_, ?_⟩
    · simp only [PyData.showableAll, g.s, h1, Bool.and_true]
    · simp only [PyData.hasDictAll, g.n, h2, Bool.or_false]
    · simp only [PyData.depthAll]
      omega
    · simp only [PyData.leavesShortAll, g.l, h4, Bool.and_true]
    · simp only [PyData.weightAll, List.length_cons]
      omega
theorem plD_good {m : Tab} (h : ∀ q ∈ m, OkP q) (hm : m.length ≤ 200) : GoodZ 2 80200 (plD m) := by
  obtain ⟨h1, h2, h3, h4, h5⟩ := plD_all h
  unfold plD
  refine ⟨?_, ?_, ?_, ?_, ?_⟩
  · simp only [PyData.showable, h1]
  · simp only [PyData.hasDict, h2]
  · simp only [PyData.depth]
    omega
  · simp only [PyData.leavesShort, h4]
  · simp only [PyData.weight]
    omega
theorem two_good {z w : Nat} {a b : PyData} (g : GoodZ z w a) (k : GoodZ z w b) : GoodZ (z + 1) (2 * w + 2) (.list [a, b]) := by
  have gz := g.z
  have kz := k.z
  have gw := g.w
  have kw := k.w
  refine ⟨?_, ?_, ?_, ?_, ?_⟩
  · simp only [PyData.showable, PyData.showableAll, g.s, k.s, Bool.and_true]
  · simp only [PyData.hasDict, PyData.hasDictAll, g.n, k.n, Bool.or_false]
  · simp only [PyData.depth, PyData.depthAll]
    omega
  · simp only [PyData.leavesShort, PyData.leavesShortAll, g.l, k.l, Bool.and_true]
  · simp only [PyData.weight, PyData.weightAll]
    omega
theorem Prs.dp {K : PySem.W.Frag} {H : Hp} : ∀ {m : Tab} {us : List V}, Prs H m us → DpAll K H us (m.map pD)
  | _, _, .nil => .nil
  | _, _, .cons ⟨T, e, h⟩ t => by
    subst e
    exact .cons (.tup (SqT.of h) (.cons (.str _) (.cons (.int _) .nil))) (Prs.dp t)
theorem Prs.list {K : PySem.W.Frag} {H : Hp} {a : Addr} {m : Tab} {us : List V} (h : H a = some (.lst us)) (p : Prs H m us) : Dp K H (.ref a) (plD m) := .lst (SqL.of h) p.dp
/-- [(key, table[key]) for key in keys] -/
theorem lc_prs {K : PySem.W.Frag} {g : TG} {tt : TT} {te : TE} {vs : List Nat} {σ : L2.St} {H1 : Hp} {r e : Addr} {m : Tab} {js : List (List Nat)} {Qd : Hp → Prop} (er : H1 r = some (.lst (js.map fun k => V.str (tx k)))) (ne : H1 e = none) (hin : ∀ k ∈ js, k ∈ keysT m) (hl : js.length ≤ 1000)
    (hs : ∀ (key : List Nat) (v : Int) (H2 : Hp) (Q' : VK) (B : Hp → Prop), key ∈ js → getT m key = some v → Same H1 H2 → (∀ p, H2 p = none → Q' (.ref p) (upd H2 p (.tup [.str (tx key), .int v]))) →
      g (.str (tx key)) (wipe σ vs) H2 fun σ2 H3 => wipe σ2 vs = wipe σ vs ∧ tt σ2 H3 fun b H4 => if b = true then te σ2 H4 Q' else B H4)
    (hd : ∀ us H, Same H1 H → H e = some (.lst us) → Prs H (prT m js) us → Qd H) :
    ∃ W : Nat → Nat → Hp → Prop, (∃ n, W 0 n (upd H1 e (.lst []))) ∧ ∀ i n H, W i n H →
      ((Itl K r).stop i H ∧ Qd H) ∨ ((Itl K r).go i H ∧ ∃ Nx : Hp → Prop, (∀ H', Nx H' → ∃ m', m' < n ∧ W (i + 1) m' H') ∧ ∀ x H', (Itl K r).yld i H x H' → g x (wipe σ vs) H' fun σ2 H2 => wipe σ2 vs = wipe σ vs ∧ tt σ2 H2 fun b H3 =>
        if b = true then te σ2 H3 fun y H4 => ∃ acc, H4 e = some (.lst acc) ∧ acc.length < sizeLine ∧ Nx (upd H4 e (.lst (acc ++ [y]))) else Nx H3) := by
  refine lc_it (walk_list (K := K) (a := r) (xs := js.map fun k => V.str (tx k))) (fun i H' => Same H1 H' ∧ ∃ us, H' e = some (.lst us) ∧ Prs H' (prT m (js.take i)) us) ⟨same_upd ne, [], upd_same, .nil⟩ (fun i H' _ h => SqL.of (h.1 _ _ er)) ?_ ?_
  · rintro i x H2 H2' hi ⟨s2, us, eu, pu⟩ ⟨rfl, hx⟩
    obtain ⟨key, hk, rfl⟩ := get_map hx
    have hkj := List.mem_of_getElem? hk
    obtain ⟨v, hv⟩ := getT_some (hin key hkj)
    refine hs key v _ _ _ hkj hv s2 (fun p hp => ?_)
    have hpe : e ≠ p := fun z => by
      rw [← z, eu] at hp
      cases hp
    have hz : us.length < sizeLine := by
      rw [← pu.len, prT_len, List.length_take]
      exact small1000 (by omega)
    refine ⟨us, by rw [upd_ne hpe]; exact eu, hz, same_mut (same_mut s2 (same_none s2 hp)) ne, _, upd_same, ?_⟩
    have e1 : prT m (js.take (i + 1)) = prT m (js.take i) ++ [(key, v)] := by
      unfold prT
      rw [List.take_add_one, hk, Option.toList_some, List.map_append]
      show _ ++ [(key, (getT m key).getD 0)] = _
      rw [hv]
      rfl
    rw [e1]
    refine (pu.keep fun T l h => ?_).app (Prs.one ?_)
    · have h1 : T ≠ e := fun z => by
        rw [z, eu] at h
        cases h
      have h2 : T ≠ p := fun z => by
        rw [z, hp] at h
        cases h
      rw [upd_ne h1, upd_ne h2]
      exact h
    · rw [upd_ne hpe.symm, upd_same]
  · rintro H2 ⟨s2, us, eu, pu⟩
    rw [List.length_map, List.take_length] at pu
    exact hd us H2 s2 eu pu
theorem prT_ok {m : Tab} {ks : List (List Nat)} (h : ∀ q ∈ m, OkP q) (hk : ∀ k ∈ ks, k ∈ keysT m) : ∀ q ∈ prT m ks, OkP q := by
  intro q hq
  obtain ⟨k, hk1, rfl⟩ := List.mem_map.mp hq
  obtain ⟨v, hv⟩ := getT_some (hk k hk1)
  rw [hv]
  unfold getT at hv
  cases e : m.find? fun p => decide (p.1 = k) with
  | none => rw [e] at hv; cases hv
  | some p =>
    rw [e] at hv
    cases hv
    have h1 := List.find?_some e
    have h2 := h p (List.mem_of_find?_eq_some e)
    have h3 : p.1 = k := of_decide_eq_true h1
    rw [← h3]
    exact h2
end Un

/-! UnTry: o[i] of an own class within try; isinstance of a caught error with a field. -/
namespace Un
open PySem PySem.Spec PyProof.Rows L2
section
variable {X : Cx} {CX : CXT} {k : Nat} {C f : Addr} {fd : FuncData} {ps : List Str} {sp : Sp} {E : XK}
theorem run_in1S {pins : List (Addr × Obj)} {σ : L2.St} {H : Hp} {s : Shared} {Q : VK} {us : List Value} {vs : List V} (F : FnOk X.prog X.w X.K X.mg X.base CX k f fd ps sp) (hr : Room (k + 1) X.A) (hb : Binds X.K fd ps []) (hx : PassesAt CX X σ E)
    (I : Inv X pins σ H s) (r : Vals vs us) (h : sp vs H Q E) : wpAny (model X.prog X.w) X.A.in1 (call (.ref f) us) (EP X pins σ Q) X.xe s := by
  have hl : us.length = ps.length := by
    rw [← r.length]
    exact F.len _ _ _ _ h
  have hbd := hb s us I.kIn (by simpa using hl)
  rw [List.append_nil] at hbd
  refine wpAny_call (codeAny_mono (F.run X.A.in1 X.stack s H ⟨us, []⟩ us vs Q E hr.in1 I.env0.in1 hbd r h) fun q s' hq => ?_)
  match q, hq with
  | .error e, hq => exact hx pins H s e s' I hq
  | .ok (.ret u), hq => exact I.after hq
  | .ok .next, hq => exact hq.elim
  | .ok .brk, hq => exact hq.elim
  | .ok .cont, hq => exact hq.elim
def tGetS (C : Addr) (sp : Sp) (E : L2.St → XK) (ta tb : TE) : TE := fun σ H Q => ta σ H fun x H1 => tb σ H1 fun y H2 => rGetO C sp (E σ) x y H2 Q
theorem pe_getGS {a b : Expr} {ta tb : TE} {pos : Pos} {j : Nat} {E : L2.St → XK} (g : MetG X.prog X.w X.K X.mg X.base CX C "__getitem__" ps k sp) (hr : Room j X.A) (hk : k + 1 ≤ j) (hx : ∀ σ, PassesAt CX X σ (E σ)) (pa : PE X a ta) (pb : PE X b tb)
    (hs : ∀ (x : Addr) (i : Value), subscripted b true (.ref x) i = runValue (.builtin "lifetime.subscript" ⟨[.ref x, i], []⟩) := by exact fun _ _ => by with_unfolding_all rfl) : PE X (.Subscript a b pos) (tGetS C sp E ta tb) := by
  obtain ⟨f, fd, c, hm, F, hfn, hb⟩ := g
  refine ⟨fun pins s σ H Q I h => Subscript_ (binT pa pb I h fun v u s2 x y H2 I2 rx ry q => ?_)⟩
  obtain ⟨p, dx, fs, rfl, hp, q⟩ := q
  cases (show v = Value.ref p from rx)
  obtain ⟨mA, O, _⟩ := ins_get I2.hok hp
  obtain ⟨od, J, _⟩ := O.look
  obtain ⟨m, hF⟩ := I2.fr
  exact PySem.W.sub_K hF I2.ok.mod.kin J hm.at_ hfn hm.fn (run_in1S F (hr.mono hk) hb (hx σ) I2 (show Vals [V.ref p, y] [Value.ref p, u] from .cons rfl (.cons ry .nil)) q) (hs p u)
end
theorem rd_getS {C : Addr} {sp : Sp} {E : L2.St → XK} {ta tb : TE} {σ : L2.St} {H : Hp} {Q : VK} (h : ta σ H fun x H1 => tb σ H1 fun y H2 => rGetO C sp (E σ) x y H2 Q) : tGetS C sp E ta tb σ H Q := h
/-- repr within a suite -/
theorem call_reprU {X : Cx} (hgd : X.A.guards = some []) (hu : X.A.units + 64 < cLine) : CallR X (.builtin "repr") (rReprZ X.K) := by
  intro pins s σ H xs us Q I r h
  obtain ⟨x, d, rfl, hd, g, q⟩ := h
  have hsz : d.shown.length ≤ sizeLine := by
    have h1 := PyData.shown_le 62 (by decide) d g.l
    have h2 := g.w
    rw [sizeLine_eq]
    omega
  have base : scalR x → reprS x = d.shown → wpAny (model X.prog X.w) X.A (call (.builtin "repr") us) (EP X pins σ Q) X.xe s := fun h1 h2 => call_reprS pins s σ H [x] us Q I r ⟨x, rfl, h1, by rw [h2]; exact q⟩
  have deep : ∀ a, x = .ref a → wpAny (model X.prog X.w) X.A (call (.builtin "repr") us) (EP X pins σ Q) X.xe s := by
    rintro a rfl
    obtain ⟨u, rfl, rx⟩ := vals1 r
    obtain ⟨as, rd⟩ := Dp.reads I d _ u hd rx
    cases rx
    have hz := g.z
    refine repr_of_reads' rd g.s (PyData.noDict_hsm g.n) hgd (by omega) (fun _ _ e => e) (fun h' u tk hk => ?_) hsz
    exact ⟨.str d.shown, H, I.kept (t' := tk) hk, ⟨u, rfl⟩, q⟩
  cases hd with
  | non => exact base trivial (by simp only [PyData.shown]; rfl)
  | bl b => exact base trivial (by simp only [PyData.shown]; rfl)
  | int i => exact base (by have h0 := g.s; simp only [PyData.showable, decide_eq_true_eq] at h0; exact h0) (by simp only [PyData.shown]; rfl)
  | str z => exact base (by have := hsz; simp only [PyData.shown] at this; exact this) (by simp only [PyData.shown]; rfl)
  | lst h1 h2 => exact deep _ rfl
  | tup h1 h2 => exact deep _ rfl
/-- isinstance(e, T): e just caught, of an own class, with its fields -/
def rIsS (K : PySem.W.Frag) (a : Addr) (cls : Value) (d : Option Addr) : List V → Hp → VK → Prop := fun xs H Q => ∃ (D : Addr) (T : String) (b : Bool) (dd : Addr) (fs : List (Str × V)), xs = [.ref a, .ty T] ∧ cls = .ref D ∧ d = some dd ∧ H dd = some (.xd fs) ∧ ExcC K D ∧
  PySem.W.kitOne K (.ref D) (.type T) = some b ∧ Q (.bl b) H
theorem call_isS {X : Cx} {a : Addr} {oe : Obj} {cls : Value} {d : Option Addr} {pn : List (Addr × Obj)} (hz : Zc cls d oe) (hf : ∃ vs, oe.data = .fields vs) : CallR (X.suite a ((a, oe) :: pn)) (.builtin "isinstance") (rIsS X.K a cls d) := by
  intro pins s σ H xs us Q I r h
  obtain ⟨D, T', b, dd, fs, rfl, rfl, rfl, ea, T, e, q⟩ := h
  obtain ⟨u1, u2, rfl, r1, r2⟩ := vals2 r
  cases (show u1 = Value.ref a from r1)
  cases (show u2 = Value.type T' from r2)
  obtain ⟨ha, _⟩ := I.pin (a, oe) (List.mem_append_left _ List.mem_cons_self)
  obtain ⟨vs, hd⟩ := hf
  have hx : ObjOk X.prog X.w H s.heap dd (.xd fs) := I.hok dd _ ea
  obtain ⟨mA, hns, hr⟩ := hx
  obtain ⟨od, ho, hl⟩ := lookIn_ns hns
  have J : PySem.W.InstAt s.heap a oe D (some od) := ⟨ha, hz.1, by unfold PySem.W.notCls; rw [hd] <;> rfl, by rw [hz.2]; exact ho⟩
  exact PySem.W.kia_one (PySem.W.kitx_excD T.hg T.hk T.hs T.hd T.ha T.hn T.ht T.hm) I.kIn J e (fun z => nomatch z) fun tk => ⟨.bl b, H, I.tok tk, rfl, q⟩
end Un

/-! UnNe: x != y where x's own class has __eq__ and no __ne__. -/
namespace Un
open PySem PySem.Spec PyProof.Rows L2
section
variable {prog : Program} {w : World} {A : Around} {E : Value → Shared → Prop} {s : Shared} {K : PySem.W.Frag} {x C f L : Addr} {ox : Obj} {od : Option Obj} {b tb : Value} {h₀ : Heap} {m : Str → Option Value}
theorem ne_entry (X : K.In s.heap) (I : PySem.W.InstAt s.heap x ox C od) (hs : PySem.W.findIn K (.ref C) "__eq__" = some (some (.ref f))) (hf : PySem.W.isFn K (.ref f) = true) (hu : A.units < cLine) {Q : Fin → Shared → Prop}
    (hcall : wpAny (model prog w) A (call (.ref f) [.ref x, b]) (fun v s' => ∃ c, v = .bool c ∧ Q (.done (.ret (.bool (!c)))) s') E s) :
    wpAny (model prog w) A (Builtin.«object.__ne__» ⟨[.ref x, b], []⟩) Q E s := by
  unfold Builtin.«object.__ne__»
  repeat (first
    | with_reducible refine wpAny_cRoomFor hu ?_
    | (refine wpAny_bind (m := callSpecialIfBound? (.ref x) (Str.ofString "__eq__") [b])
        (PySem.W.ifBound_K X I hs hf (wpAny_mono hcall (fun r s' hr => by
          obtain ⟨c, rfl, hq⟩ := hr
          repeat (first | exact hq | exact wpAny_pure hq | exact wpAny_truthy_bool hq | (refine wpAny_bind (m := truthy (.bool _)) (wpAny_truthy_bool ?_)) | wp_step)) fun _ _ e => e)))
    | wp_step)
theorem ifBound_ne {M : Model} {args : List Value} {Q : Option Value → Shared → Prop} (X : K.In s.heap) (I : PySem.W.InstAt s.heap x ox C od) (hs : PySem.W.findIn K (.ref C) "__ne__" = some (some (.builtin "object.__ne__")))
    (h : wpAny M A (call (.builtin "object.__ne__") (.ref x :: args)) (fun v => Q (some v)) E s) : wpAny M A (callSpecialIfBound? (.ref x) "__ne__" args) Q E s := by
  simp only [callSpecialIfBound?, bindSpecialIfBound?]
  refine wpAny_holding (wpAny_bind (wpAny_bind (wpAny_bind (I.type.here ((PySem.W.looks_findIn X hs).here ?_)))))
  refine wpAny_bind (wpAny_askSetting (wpAny_ite ?_))
  have fin : wpAny M A (call (.builtin "object.__ne__") ([.ref x] ++ args) >>= fun v => pure (some v)) Q E s := wpAny_bind (wpAny_mono h (fun v s' h' => wpAny_pure h') fun _ _ h' => h')
  split
  · exact wpAny_bind (wpAny_of_eq (PySem.F.cmp_object.ne.bind _) (wpAny_pure (by exact fin)))
  · exact wpAny_tryCatch (wpAny_bind (wpAny_of_eq (PySem.F.cmp_object.ne.bind _) (wpAny_pure (by exact fin))))
theorem ne_K {Q : Value → Shared → Prop} (hu : A.units + 1 < cLine) (X : K.In s.heap) (I : PySem.W.InstAt s.heap x ox C od) (hb : PySem.W.Looks (model prog w) s.heap (typeOf b) tb) (hn : PySem.W.notFirst K C tb = true)
    (he : PySem.W.findIn K (.ref C) "__eq__" = some (some (.ref f))) (hf : PySem.W.isFn K (.ref f) = true) (hne : PySem.W.findIn K (.ref C) "__ne__" = some (some (.builtin "object.__ne__"))) (hm : PySem.W.mroIn K C (.type "object") = some true)
    (h : wpAny (model prog w) A.in1 (call (.ref f) [.ref x, b]) (fun v s' => ∃ c, v = .bool c ∧ Q (.bool (!c)) s') E s) : wpAny (model prog w) A (richCompare .NotEq (.ref x) b) Q E s := by
  have one : wpAny (model prog w) A (tryCompare (.ref x) "__ne__" b) (fun r s' => ∃ v, r = some v ∧ Q v s') E s := by
    unfold tryCompare
    refine wpAny_bind (ifBound_ne X I hne (wpAny_call (codeAny_call_builtin PySem.F.cmp_object.ne.plain PySem.F.cmpEntry_ne (PySem.W.check_slot PySem.F.cmpKind_ne PySem.F.cmpSplit_ne (I.type.andThen (PySem.W.looks_mroIn X hm)) (PySem.F.cmpArgs_ne _ _)
      (ne_entry (A := A.in1) X I he hf hu (wpAny_mono h (fun v s' hv => ?_) fun _ _ e => e))))))
    obtain ⟨c, rfl, hq⟩ := hv
    refine ⟨c, rfl, ?_⟩
    first | exact wpAny_pure ⟨_, rfl, hq⟩ | exact wpAny_pure (wpAny_pure ⟨_, rfl, hq⟩) | exact ⟨_, rfl, hq⟩
  unfold richCompare
  simp only [oneThing_ref]
  refine wpAny_holding (wpAny_bind (wpAny_cRoomFor (Nat.lt_of_succ_lt hu) ?_))
  rw [cmpInfo_NotEq]
  dsimp only
  refine wpAny_bind (I.type.here (wpAny_bind (hb.here ?_)))
  split
  · rename_i q
    have e : PySem.W.subIn K tb (.ref C) = some false := by
      rcases Bool.or_eq_true_iff.mp hn with e | e
      · rw [beq_iff_eq.mp e] at q; simp at q
      · exact beq_iff_eq.mp e
    refine wpAny_bind ((PySem.W.looks_subIn X e).here ?_)
    simp only [Bool.false_eq_true, if_false]
    refine wpAny_bind (wpAny_mono one (fun r s' z => ?_) fun _ _ e => e)
    obtain ⟨v, rfl, hq⟩ := z
    exact wpAny_pure hq
  · refine wpAny_bind (wpAny_pure ?_)
    simp only [Bool.false_eq_true, if_false]
    refine wpAny_bind (wpAny_mono one (fun r s' z => ?_) fun _ _ e => e)
    obtain ⟨v, rfl, hq⟩ := z
    exact wpAny_pure hq
end
section
variable {X : Cx} {CX : CXT} {k : Nat} {C f : Addr} {fd : FuncData} {ps : List Str} {sp : Sp} {E : XK}
/-- o != y -/
def rNeO (C : Addr) (sp : Sp) (E : XK) (T : V → Hp → Prop) : R2 := fun x y H Q => ∃ a dx fs, x = .ref a ∧ H a = some (.ins C dx fs) ∧ T y H ∧ sp [.ref a, y] H (fun r H' => ∃ b, r = .bl b ∧ Q (.bl (!b)) H') E
/-- no __ne__ of its own -/
structure NeK (K : PySem.W.Frag) (C : Addr) : Prop where
  ne : PySem.W.findIn K (.ref C) "__ne__" = some (some (.builtin "object.__ne__"))
  mr : PySem.W.mroIn K C (.type "object") = some true
theorem op_neO {T : V → Hp → Prop} (hT : Right X C T) (hN : NeK X.K C) (hm : Meth X.K C "__eq__" f) (F : FnOk X.prog X.w X.K X.mg X.base CX k f fd ps sp) (hr : Room (k + 1) X.A) (hb : Binds X.K fd ps []) (hx : Passes CX X E) : OpR X (compareOp .NotEq) (rNeO C sp E T) := by
  intro pins s σ H x y v u Q I rx ry h
  obtain ⟨a, dx, fs, rfl, ha, ht, h⟩ := h
  cases (show v = Value.ref a from rx)
  obtain ⟨mA, O, _⟩ := ins_get I.hok ha
  obtain ⟨od, J, _⟩ := O.look
  obtain ⟨t, hL, hn⟩ := hT pins σ H s y u I ry ht
  have hu : X.A.units + 1 < cLine := by have := hr.units; omega
  unfold compareOp
  refine ne_K hu I.kIn J hL hn hm.at_ hm.fn hN.ne hN.mr (wpAny_mono (run_in1 F hr hb hx I (show Vals [V.ref a, y] [Value.ref a, u] from .cons rfl (.cons ry .nil)) h) (fun r s' hs => ?_) fun _ _ e => e)
  obtain ⟨z, H', I', rz, b, rfl, q⟩ := hs
  cases (show r = Value.bool b from rz)
  exact ⟨b, rfl, .bl (!b), H', I', rfl, q⟩
theorem ne_G {j : Nat} {T : V → Hp → Prop} (hT : Right X C T) (hN : NeK X.K C) (g : MetG X.prog X.w X.K X.mg X.base CX0 C "__eq__" ps k sp) (hr : Room j X.A) (hk : k + 1 ≤ j) : OpR X (compareOp .NotEq) (rNeO C sp E0 T) := by
  obtain ⟨f, fd, c, M, F, i, b⟩ := g
  exact op_neO hT hN M F (hr.mono hk) b pass0
end
/-- what may stand on the right of == and != : a store, a list, a dict -/
def RightO (C : Addr) (y : V) (H : Hp) : Prop := ∃ a, y = .ref a ∧ ((∃ dx fs, H a = some (.ins C dx fs)) ∨ (∃ xs, H a = some (.lst xs)) ∨ ∃ kvs, H a = some (.dK kvs))
theorem right_o {X : Cx} {C : Addr} (hi : InsK X.K C) : Right X C (RightO C) := by
  rintro pins σ H s y u I ry ⟨a, rfl, h⟩
  cases (show u = Value.ref a from ry)
  rcases h with ⟨dx, fs, h⟩ | ⟨xs, h⟩ | ⟨kvs, h⟩
  · obtain ⟨mA, O, _⟩ := ins_get I.hok h
    obtain ⟨od, J, _⟩ := O.look
    exact ⟨.ref C, J.type, hi.nf⟩
  · obtain ⟨_, its, n, _, e⟩ := (show ObjOk X.prog X.w H s.heap a (.lst xs) from I.hok a _ h)
    exact ⟨.type "list", (PySem.W.Looks.ld e).andThen .now, (hi.no "list" (by decide)).2⟩
  · obtain ⟨_, _, vs, _, o, es, ep, e, x, _⟩ := (show ObjOk X.prog X.w H s.heap a (.dK kvs) from I.hok a _ h)
    have hc : o.cls = .type "dict" := x.1
    exact ⟨.type "dict", hc ▸ (PySem.W.Looks.ld e).andThen .now, (hi.no "dict" (by decide)).2⟩
end Un

/-! UnMin: min of two texts. -/
namespace Un
open PySem PySem.Spec PyProof.Rows L2
theorem cmp_txt {prog : Program} {w : World} {A : Around} {its : Array Value} (z : Nat → Str) (hz : ∀ (i : Nat) (v : Value), its[i]? = some v → ∃ t, v = Value.str (z i) t) :
    CmpOf prog w A .Lt (fun i v => its[i]? = some v) (fun i j => decide ((z i).cps.toList < (z j).cps.toList)) := by
  intro i j a b s Q E ha hb q
  obtain ⟨t, rfl⟩ := hz i a ha
  obtain ⟨u, rfl⟩ := hz j b hb
  exact P.lt_str q
theorem min_txt {prog : Program} {w : World} {A : Around} {E : Value → Shared → Prop} {s : Shared} {x y : Str} {t u : Tok} {Q : Value → Shared → Prop} (hh : A.handled = none)
    (q : ∀ g tk (v : Value), (v = Value.str x t ∨ v = Value.str y u) → (∀ d o, s.heap.get? d = some o → g.get? d = some o) → Q v { s with heap := g, toks := tk }) : wpAny (model prog w) A (call (.builtin "min") [.str x t, .str y u]) Q E s := by
  have sz : (s.heap.push { cls := .type "tuple", data := .seq #[.str x t, .str y u] }).objs.size = s.heap.objs.size + 1 := by rw [Heap.size_push]
  have tp : (s.heap.push { cls := .type "tuple", data := .seq #[.str x t, .str y u] }).IsTuple s.heap.objs.size #[.str x t, .str y u] := ⟨_, Heap.get?_push_size _ rfl, rfl, 0, rfl⟩
  have two : ∀ (i : Nat) (v : Value), (#[Value.str x t, Value.str y u])[i]? = some v → v = .str x t ∧ i = 0 ∨ v = .str y u ∧ i = 1 := fun i v e => by
    match i, e with
    | 0, e => exact .inl ⟨(Option.some.inj e).symm, rfl⟩
    | 1, e => exact .inr ⟨(Option.some.inj e).symm, rfl⟩
    | i + 2, e => simp at e
  refine call_min_two (wpAny_pyIter_tuple tp ?_)
  refine ⟨_, _, [_], _, _, _, _, rfl, Walks.tuple (A := A.in1) hh _ s.heap.objs.size (by rw [sz]; exact (Nat.succ_ne_self _).symm) #[.str x t, .str y u], ⟨⟨_, Heap.get?_push_size _ rfl, rfl, rfl⟩, tp.push _⟩, fun d hd => ?_, by simp, cmp_txt (fun i => if i = 0 then x else y) (fun i v e => ?_), fun v g tk hp hk => ?_⟩
  · show d < ((s.heap.push _).push _).objs.size
    rw [Heap.size_push, sz]
    simp only [List.mem_cons, List.not_mem_nil, or_false] at hd
    rcases hd with rfl | rfl
    · rw [sz]; exact Nat.lt_succ_self _
    · exact Nat.lt_succ_of_lt (Nat.lt_succ_self _)
  · rcases two i v e with ⟨rfl, rfl⟩ | ⟨rfl, rfl⟩
    · exact ⟨t, rfl⟩
    · exact ⟨u, rfl⟩
  · refine q g tk v ?_ fun d o e => ?_
    · rcases two _ v hp with h | h
      · exact .inl h.1
      · exact .inr h.1
    · refine hk d o (fun hm => ?_) (Heap.get?_push_of_some _ (Heap.get?_push_of_some _ e))
      have l := Heap.lt_size e
      rw [List.mem_singleton.mp hm, sz] at l
      exact absurd l (Nat.not_lt_of_le (Nat.le_succ _))
def rMinX : List V → Hp → VK → Prop := fun xs H Q => ∃ a b, xs = [.str (tx a), .str (tx b)] ∧ ∀ c, (c = a ∨ c = b) → Q (.str (tx c)) H
theorem call_minX {X : Cx} (hc : X.calm = true) : CallR X (.builtin "min") rMinX := by
  intro pins s σ H xs us Q I r h
  obtain ⟨a, b, rfl, q⟩ := h
  obtain ⟨u1, u2, rfl, ⟨t1, rfl⟩, ⟨t2, rfl⟩⟩ := vals2 r
  refine min_txt (I.ok.hd hc) fun g tk v hv hk => ?_
  rcases hv with rfl | rfl
  · exact ⟨.str (tx a), H, I.kept hk, ⟨t1, rfl⟩, q a (.inl rfl)⟩
  · exact ⟨.str (tx b), H, I.kept hk, ⟨t2, rfl⟩, q b (.inr rfl)⟩
theorem rd_minX {H : Hp} {Q : VK} {a b : List Nat} (q : ∀ c, (c = a ∨ c = b) → Q (.str (tx c)) H) : rMinX [.str (tx a), .str (tx b)] H Q := ⟨a, b, rfl, q⟩
def rMinI : List V → Hp → VK → Prop := fun xs H Q => ∃ i j, xs = [.int i, .int j] ∧ Q (.int (if j < i then j else i)) H
theorem call_min2X {X : Cx} (hc : X.calm = true) : CallR X (.builtin "min") rMinI := call_min2 hc
theorem rd_minI {H : Hp} {Q : VK} {i j : Int} (q : Q (.int (if j < i then j else i)) H) : rMinI [.int i, .int j] H Q := ⟨i, j, rfl, q⟩
end Un

/-! UnHds: try with several except clauses, each with a name or without. -/
namespace Un
open PySem PySem.Spec PyProof.Rows L2
/-- an except clause: its class, the slot of its name, its suite's reading -/
abbrev Hd := Value × Option Nat × (Addr → Value → Option Addr → TS)
def clause (a : Addr) (cls : Value) (d : Option Addr) (D : Ends) : Option Nat → (Addr → Value → Option Addr → TS) → L2.St → Hp → Prop
  | none, t, ρ, G => t a cls d D ρ G
  | some i, t, ρ, G => t a cls d { nx := fun ρ1 G1 => D.nx (ρ1.set i none) G1, rt := D.rt, bk := fun ρ1 G1 => D.bk (ρ1.set i none) G1, ct := fun ρ1 G1 => D.ct (ρ1.set i none) G1 } (ρ.set i (some (.ref a))) G
def wHds (K : PySem.W.Frag) (W0 : WX) (D : Ends) : List Hd → WX
  | [] => W0
  | (c, i, t) :: r => fun cls d ρ G => ∃ b, PySem.W.exmOne K cls c = some b ∧ (b = true → ∀ a, G a = none → clause a cls d D i t ρ G) ∧ (b = false → wHds K W0 D r cls d ρ G)
inductive Hds (X : Cx) : List ExceptHandler → List Hd → Prop
  | nil : Hds X [] []
  | bare {x : Str} {c : Value} {t : Addr → Value → Option Addr → TS} {st : Stmt} {sts : List Stmt} {p1 p2 : Pos} {es : List ExceptHandler} {l : List Hd} (nc : Names X x c)
      (su : ∀ (a : Addr) (ob : Obj) (cls : Value) (d : Option Addr) (pn : List (Addr × Obj)), Zc cls d ob → (∃ fs, ob.data = .fields fs) → PSs (X.suite a ((a, ob) :: pn)) (st :: sts) (t a cls d)) (r : Hds X es l) :
      Hds X (.ExceptHandler (some (.Name x p1)) none (st :: sts) p2 :: es) ((c, none, t) :: l)
  | as {x n : Str} {i : Nat} {c : Value} {t : Addr → Value → Option Addr → TS} {st : Stmt} {sts : List Stmt} {p1 p2 : Pos} {es : List ExceptHandler} {l : List Hd} (ni : X.N[i]? = some n) (nl : X.env.kindOf n = some .local) (nc : Names X x c)
      (su : ∀ (a : Addr) (ob : Obj) (cls : Value) (d : Option Addr) (pn : List (Addr × Obj)), Zc cls d ob → (∃ fs, ob.data = .fields fs) → PSs (X.suite a ((a, ob) :: pn)) (st :: sts) (t a cls d)) (r : Hds X es l) :
      Hds X (.ExceptHandler (some (.Name x p1)) (some n) (st :: sts) p2 :: es) ((c, some i, t) :: l)
section
variable {X : Cx} {body : List Stmt} {e0 : ExceptHandler} {es : List ExceptHandler} {l : List Hd} {tp : Pos} {tb : WX → TS} {W0 : WX}
theorem ps_try_hds (st : X.stack = X.env :: X.outer) (fr : X.env.frame = some X.env.locals) (nd : X.N.Nodup) (tk : Takes X W0)
    (pb : ∀ (W : WX) (pn : List (Addr × Obj)) (xe : Value → Shared → Prop), Takes (X.tr pn xe) W → PassesOwn (model X.prog X.w) X.A X.env xe → PSs (X.tr pn xe) body (tb W))
    (ph : Hds X (e0 :: es) l) : PS X (.Try body (e0 :: es) [] [] tp) (fun D ρ G => tb (wHds X.K W0 D l) D ρ G) := by
  refine ⟨fun pins z ρ G D J0 rd => ?_⟩
  have okX := J0.ok
  have frs0 : X.A.frames = some (X.env :: X.outer) := by rw [okX.frames, st]
  refine wpAny_Try_except ?_
  refine wpAny_mono ((pb (wHds X.K W0 D l) (X.pn ++ pins) (fun e z1 => wpAny (model X.prog X.w) X.A (noteFrame e X.env) (fun _ z2 => wpAny (model X.prog X.w) X.A (setFlight e none) (fun _ z3 =>
    wpAny (model X.prog X.w) X.A (handleBy e X.env (e0 :: es)) (SP X pins D) X.xe z3) X.xe z2) X.xe z1) (fun u z1 thrown => ?_) PassesOwn.looking).run [] z ρ G D (J0.toTry _) rd) (fun fl z1 fin => ?_) (fun e z1 he => he)
  · obtain ⟨a, B, zI, pins', ρ1, G1, cls, d, rfl, J1, nb, up, sky, na, os, ag, wish⟩ := thrown
    have JI : Inv X pins ρ1 G1 zI := J1.ofTry okX
    have skyE : Sky B (X.env :: X.outer) a (Zc cls d) X.env.locals z1.heap := by rw [← st]; exact sky
    show wpAny (model X.prog X.w) X.A (noteFrame (.ref a) X.env) _ _ _
    refine Sky.land Zc.steady frs0 fr skyE fun g3 fl3 up3 => ?_
    have J3 : Inv X pins ρ1 G1 { z1 with heap := g3 } := JI.landed nb fl3.1 (up.trans up3) os ag
    obtain ⟨ob3, fs3, at3, zc3, da3⟩ := fl3.there
    have apart : a ∉ frs (X.env :: X.outer) := fun hm => by
      obtain ⟨_, ob', at', nof⟩ := fl3.2.2.1.mem hm
      rw [at3] at at'
      cases at'
      exact nof _ da3
    have aL : a ≠ X.env.locals := fun q => apart (List.mem_filterMap.mpr ⟨X.env, List.mem_cons_self, by rw [fr, q]⟩)
    have aF : a ∉ X.fs := fun hm => by
      obtain ⟨ev, hev, q⟩ := List.mem_filterMap.mp hm
      exact apart (List.mem_filterMap.mpr ⟨ev, List.mem_cons_of_mem _ hev, q⟩)
    have S3 := J3.suite at3 da3 na aL aF
    have looks : PySem.W.Looks (model X.prog X.w) g3 (typeOf (.ref a)) cls := fun A Q E s k q => wpAny_typeOf_ref (k _ _ at3) (by rw [zc3.1]; exact q)
    have named : ∀ {x : Str} {c : Value} {p1 : Pos} {Q : Value → Shared → Prop} {E : Value → Shared → Prop}, Names X x c → Q c { z1 with heap := g3 } → wpAny (model X.prog X.w) (X.A.mark (some (.ref a))) (eval (.Name x p1) X.env) Q E { z1 with heap := g3 } := fun {x c p1 Q E} nc q => by
      obtain ⟨gl, db, m | ⟨m, hv, nn⟩⟩ := nc
      · exact ld_glob (X := X.suite a ((a, ob3) :: (X.pn ++ pins))) S3 gl m q db
      · exact ld_blt (X := X.suite a ((a, ob3) :: (X.pn ++ pins))) S3 gl m hv q nn db
    have each : ∀ {es' : List ExceptHandler} {l' : List Hd}, Hds X es' l' → wHds X.K W0 D l' cls d ρ1 G1 → wpAny (model X.prog X.w) X.A (handleBy (.ref a) X.env es') (SP X pins D) X.xe { z1 with heap := g3 } := by
      intro es' l' hk
      induction hk with
      | nil =>
        intro wish
        refine wpAny_handleBy_nil ?_
        obtain ⟨k1, k2, k3, ob, fs, T, oT, tl, at0, zc0, da0, f1, f2⟩ := id fl3
        unfold PySem.passOn
        refine wpAny_bind (wpAny_field at0 da0 f1 ?_)
        rw [if_neg (show ¬ ((Value.ref T == Value.none) = true) from by simp)]
        have go : wpAny (model X.prog X.w) X.A (setFlight (.ref a) X.env.frame) (fun _ z4 => wpAny (model X.prog X.w) X.A (throw (.ref a) : Sem Flow) (SP X pins D) X.xe z4) X.xe { z1 with heap := g3 } := by
          rw [fr]
          refine HandSPX.setFlight_upZ fl3 fun g4 sk4 up4 => wpAny_throw (tk _ _ ?_)
          exact ⟨a, B, zI, pins, ρ1, G1, cls, d, rfl, JI, nb, (up.trans up3).trans up4, .inr (.inr (by rw [st]; exact sk4)), na, os, ag, wish⟩
        first
          | exact wpAny_bind (wpAny_pure (wpAny_bind go))
          | exact wpAny_bind go
      | @bare x c t st1 sts p1 p2 es2 l2 nc su r ih =>
        rintro ⟨b, m1, yes, no⟩
        refine wpAny_handleBy_cons (codeAny_handlers_test ?_) (by intro q; cases q)
        refine named nc ((PySem.W.exm_one (M := model X.prog X.w) (J3.kIn) looks m1).here ?_)
        cases b with
        | false =>
          show wpAny _ X.A (handleBy (.ref a) X.env es2) _ _ _
          exact ih (no rfl)
        | true =>
          refine codeAny_handlers_suite ?_
          refine HandSPX.lands_againZ fl3 fun g4 fl4 up4 => ?_
          have J4 : Inv X pins ρ1 G1 { z1 with heap := g4 } := JI.landed nb fl4.1 ((up.trans up3).trans up4) os ag
          obtain ⟨ob4, fs4, at4, zc4, da4⟩ := fl4.there
          have S4 := J4.suite at4 da4 na aL aF
          refine wpAny_mono ((su a ob4 cls d (X.pn ++ pins) zc4 ⟨_, da4⟩).run [] _ _ G1 _ S4 (yes rfl a na)) (fun fl z6 fin => ?_) (fun _ _ q => False.elim q)
          cases fl with
          | next => obtain ⟨ρ6, G6, S6, q6⟩ := fin; exact ⟨_, _, S6.unsuite okX, q6⟩
          | brk => obtain ⟨ρ6, G6, S6, q6⟩ := fin; exact ⟨_, _, S6.unsuite okX, q6⟩
          | cont => obtain ⟨ρ6, G6, S6, q6⟩ := fin; exact ⟨_, _, S6.unsuite okX, q6⟩
          | ret u => obtain ⟨v6, ρ6, G6, S6, r6, q6⟩ := fin; exact ⟨_, _, _, S6.unsuite okX, r6, q6⟩
      | @as x n i c t st1 sts p1 p2 es2 l2 ni nl nc su r ih =>
        rintro ⟨b, m1, yes, no⟩
        refine wpAny_handleBy_cons (codeAny_handlers_test ?_) (by intro q; cases q)
        refine named nc ((PySem.W.exm_one (M := model X.prog X.w) (J3.kIn) looks m1).here ?_)
        cases b with
        | false =>
          show wpAny _ X.A (handleBy (.ref a) X.env es2) _ _ _
          exact ih (no rfl)
        | true =>
          refine codeAny_handlers_suite_as ?_
          refine HandSPX.lands_againZ fl3 fun g4 fl4 up4 => ?_
          have J4 : Inv X pins ρ1 G1 { z1 with heap := g4 } := JI.landed nb fl4.1 ((up.trans up3).trans up4) os ag
          obtain ⟨ob4, fs4, at4, zc4, da4⟩ := fl4.there
          have S4 := J4.suite at4 da4 na aL aF
          refine store_ok (X := X.suite a ((a, ob4) :: (X.pn ++ pins))) (v := .ref a) S4 nd ni (.inl nl) rfl (fun z5 S5 => ?_) (.inr nl)
          refine wpAny_mono ((su a ob4 cls d (X.pn ++ pins) zc4 ⟨_, da4⟩).run [] z5 _ G1 _ S5 (yes rfl a na)) (fun fl z6 fin => ?_) (fun _ _ q => False.elim q)
          have shut : ∀ {ρ6 : L2.St} {G6 : Hp} {Q : Shared → Prop}, Inv (X.suite a ((a, ob4) :: (X.pn ++ pins))) [] ρ6 G6 z6 → (∀ z7, Inv X pins (ρ6.set i none) G6 z7 → Q z7) →
              wpAny (model X.prog X.w) X.A (do bindName X.env n .none; unbindBehindTheSuite X.env n p2) (fun _ z7 => Q z7) X.xe z6 := fun {ρ6 G6 Q} S6 hq => gone_ok (S6.unsuite okX) nd ni nl hq
          cases fl with
          | next => obtain ⟨ρ6, G6, S6, q6⟩ := fin; exact shut S6 fun z7 J7 => ⟨_, _, J7, q6⟩
          | brk => obtain ⟨ρ6, G6, S6, q6⟩ := fin; exact shut S6 fun z7 J7 => ⟨_, _, J7, q6⟩
          | cont => obtain ⟨ρ6, G6, S6, q6⟩ := fin; exact shut S6 fun z7 J7 => ⟨_, _, J7, q6⟩
          | ret u => obtain ⟨v6, ρ6, G6, S6, r6, q6⟩ := fin; exact shut S6 fun z7 J7 => ⟨_, _, _, J7, r6, q6⟩
    exact each ph wish
  · cases fl with
    | next => obtain ⟨ρ1, G1, J1, q⟩ := fin; exact wpAny_execs_nil ⟨ρ1, G1, J1.ofTry okX, q⟩
    | brk => obtain ⟨ρ1, G1, J1, q⟩ := fin; exact ⟨ρ1, G1, J1.ofTry okX, q⟩
    | cont => obtain ⟨ρ1, G1, J1, q⟩ := fin; exact ⟨ρ1, G1, J1.ofTry okX, q⟩
    | ret u => obtain ⟨v, ρ1, G1, J1, r, q⟩ := fin; exact ⟨v, ρ1, G1, J1.ofTry okX, r, q⟩
end
end Un

/-! UnTab: the end of a law whose defs make lambdas, and show values. -/
namespace Un
open PySem PySem.Spec PyProof.Rows L2
theorem runTG {P : Program} {w : World} {K : PySem.W.Frag} {mg mb : Str → Option Value} {k : Nat} {fa a : Addr} {cs : List (Addr × Addr)} {fd : FuncData} {x : Str} {sp : Sp} {z : Shared} {vs : List Value} {ns : List Int}
    (KX : K.In z.heap) (hns : z.heap.Ns mainGlobals mg) (hb : z.heap.Ns builtinsNs mb) (hbb : ∀ y : Str, y ≠ "__name__" → mb y = bootBuiltins y) (lim : z.heap.NoLimit) (hg : z.gens = #[])
    (tabs : ∀ p ∈ cs, z.heap.get? p.2 = some { cls := .none, data := .fields #[] }) (nT : ∀ p ∈ cs, K.lookup p.2 = none) (hd : ∀ p ∈ cs, PySem.W.CodeHd z.heap p.1 p.2)
    (bmn : ∃ (bm : Addr) (ob : Obj), mg "__builtins__" = some (.ref bm) ∧ bm ≠ builtinsNs ∧ z.heap.get? bm = some ob ∧ ob.cls = .type "module" ∧ ob.dict = some builtinsNs ∧ ob.data = .plain)
    (ha : z.heap.get? a = some { cls := .type "list", data := .seq vs.toArray }) (hi : IntsAre vs ns) (hl : ns.length ≤ sizeLine) (room : Room k callerA)
    (F : ∀ base : Heap, K.In base → base.Ns mainGlobals mg → (∀ p ∈ cs, LamX.TabB base mg p.1 p.2) → FnG P w K mg base k fa fd [x] sp) (bind1 : ∀ (s : Shared) (u : Value), BindsTo s fd ⟨[u], []⟩ [(x, u)])
    (told : ∀ H : Hp, (∀ p ∈ cs, H p.2 = some (.tbl #[])) → SqL K H a (ns.map V.int) → sp [.ref a] H (fun v _ => v = .bl true) fun _ _ _ => False) :
    codeAny (model P w) callerA (.call (.ref fa) ⟨[.ref a], []⟩) (fun r s' => r = .ok (.ret (.bool true)) ∧ OldK z.heap s'.heap ∧ s'.os = z.os ∧ AllBare s'.gens) z := by
  have relV := vals_ints hi
  have sizes := hi.length
  have tabAt : ∀ b : Addr, b ∈ cs.map (·.2) → z.heap.get? b = some { cls := .none, data := .fields #[] } := fun b m => by
    obtain ⟨p, hp, rfl⟩ := List.mem_map.mp m
    exact tabs p hp
  have apart : a ∉ cs.map (·.2) := fun m => by
    have e := tabAt a m
    rw [ha] at e
    cases congrArg Obj.data (Option.some.inj e)
  have inT : ∀ p ∈ cs, p.2 ∈ cs.map (·.2) := fun p hp => List.mem_map.mpr ⟨p, hp, rfl⟩
  suffices from_ : ∀ H : Hp, (∀ b u, H b = some u → (b = a ∧ K.lookup a = none ∧ u = .frz { cls := .type "list", data := .seq vs.toArray } (.lst (ns.map V.int))) ∨ (b ∈ cs.map (·.2) ∧ u = .tbl #[])) → (∀ p ∈ cs, H p.2 = some (.tbl #[])) → SqL K H a (ns.map V.int) →
      codeAny (model P w) callerA (.call (.ref fa) ⟨[.ref a], []⟩) (fun r s' => r = .ok (.ret (.bool true)) ∧ OldK z.heap s'.heap ∧ s'.os = z.os ∧ AllBare s'.gens) z by
    cases look : K.lookup a with
    | some o =>
      have there := KX a o look
      rw [ha] at there
      obtain rfl := Option.some.inj there
      refine from_ (fun b => if b ∈ cs.map (·.2) then some (.tbl #[]) else none) (fun b u e => ?_) (fun p hp => if_pos (inT p hp)) (.inr ⟨_, vs.toArray, _, look, rfl, rfl, rfl, by rw [List.size_toArray, sizes]; exact hl, by simpa using relV⟩)
      by_cases m : b ∈ cs.map (·.2)
      · rw [if_pos m] at e
        exact .inr ⟨m, (Option.some.inj e).symm⟩
      · rw [if_neg m] at e
        cases e
    | none =>
      refine from_ (fun b => if b = a then some (.frz { cls := .type "list", data := .seq vs.toArray } (.lst (ns.map V.int))) else if b ∈ cs.map (·.2) then some (.tbl #[]) else none) (fun b u e => ?_) (fun p hp => ?_) (.inl (.inr ⟨_, if_pos rfl⟩))
      · by_cases q : b = a
        · rw [if_pos q] at e
          exact .inl ⟨q, look, (Option.some.inj e).symm⟩
        · rw [if_neg q] at e
          by_cases m : b ∈ cs.map (·.2)
          · rw [if_pos m] at e
            exact .inr ⟨m, (Option.some.inj e).symm⟩
          · rw [if_neg m] at e
            cases e
      · have q : ¬ p.2 = a := fun q => apart (by rw [← q]; exact inT p hp)
        exact (if_neg q).trans (if_pos (inT p hp))
  intro H hH hT hS
  have held : HOk P w H z.heap := fun b u e => by
    rcases hH b u e with ⟨rfl, _, rfl⟩ | ⟨m, rfl⟩
    · exact ⟨ha, by rw [List.length_map]; exact hl, vs, _, relV, ha⟩
    · exact tabAt b m
  have unseen : ∀ {b : Addr} {o : Obj}, z.heap.get? b = some o → (∀ us n, o.data ≠ .seq us n) → o.data ≠ .fields #[] → H b = none := fun {b o} e h1 h2 => by
    cases q : H b with
    | none => rfl
    | some u =>
      rcases hH b u q with ⟨rfl, _, _⟩ | ⟨m, _⟩
      · rw [ha] at e
        cases e
        exact (h1 _ _ rfl).elim
      · rw [tabAt b m] at e
        cases e
        exact (h2 rfl).elim
  have hidden : ∀ {b : Addr} {m : Str → Option Value}, z.heap.Ns b m → (hidT z.heap H).Ns b m := by
    rintro b m ⟨o, es, ep, e, d, r⟩
    exact ⟨o, es, ep, hidT_get e (unseen e (fun us n q => by rw [d] at q; cases q) fun q => by rw [d] at q; cases q), d, r⟩
  have kIn : K.In (hidT z.heap H) := fun b o e => hidT_get (KX b o e) (by
    cases q : H b with
    | none => rfl
    | some u =>
      rcases hH b u q with ⟨rfl, n, _⟩ | ⟨m, _⟩
      · rw [n] at e
        cases e
      · obtain ⟨p, hp, rfl⟩ := List.mem_map.mp m
        rw [nT p hp] at e
        cases e)
  have md : Mod K mg (hidT z.heap H) := ⟨kIn, hidden hns, ⟨mb, hidden hb, hbb⟩, match lim with | ⟨mc, h1, h2⟩ => ⟨mc, hidden h1, h2⟩⟩
  have tb : ∀ p ∈ cs, LamX.TabB (hidT z.heap H) mg p.1 p.2 := fun p hp => by
    have at_ := tabs p hp
    obtain ⟨og, es, ep, eg, dg, _⟩ := id hns
    refine ⟨?_, ?_, fun q => ?_⟩
    · obtain ⟨o, us, file, tf, flags, tg, inF, text, tt, e1, r1, r2, r3, rest⟩ := hd p hp
      refine ⟨o, us, file, tf, flags, tg, inF, text, tt, hidT_get e1 (unseen e1 (fun us n q => by rw [r2] at q; cases q) fun q => ?_), r1, r2, r3, rest⟩
      rw [r2] at q
      cases q
      simp at r3
    · obtain ⟨bm, ob, b1, b2, b3, b4, b5, b6⟩ := bmn
      refine ⟨bm, ob, b1, b2, fun q => ?_, fun q => ?_, hidT_get b3 (unseen b3 (fun us n q => by rw [b6] at q; cases q) fun q => by rw [b6] at q; cases q), b4, b5, b6⟩
      · rw [q, eg] at b3
        cases b3
        rw [dg] at b6
        cases b6
      · rw [q, at_] at b3
        cases b3
        cases b6
    · rw [q, at_] at eg
      cases eg
      cases dg
  have none_in : ∀ b : Addr, b ∈ ([] : List Addr) → False := fun b m => by cases m
  have env0 : Env0 P w K mg (hidT z.heap H) callerA [] z H := ⟨rfl, md, fun b o e => of_hidT e, Nat.le_of_eq (hidT_size _ _), trivial, fun b m => (none_in b m).elim, held, .of_eq hg⟩
  refine codeAny_mono ((F _ kIn (hidden hns) tb).run callerA [] z H ⟨[.ref a], []⟩ [.ref a] [.ref a] _ _ rfl room env0 (bind1 z (.ref a)) (.cons rfl .nil) (told H hT hS)) fun r s' h => ?_
  match r, h with
  | .error e, h => exact (show False from h).elim
  | .ok .next, h => exact (show False from h).elim
  | .ok .brk, h => exact (show False from h).elim
  | .ok .cont, h => exact (show False from h).elim
  | .ok (.ret u), h =>
    obtain ⟨v, H', hos, bare, un, held', rv, rfl⟩ := h
    obtain rfl : u = Value.bool true := rv
    have kept : ∀ b o, b ∉ cs.map (·.2) → z.heap.get? b = some o → s'.heap.get? b = some o := fun b o nb e => by
      cases q : H b with
      | none => exact un.keep b o e q (none_in b) (none_in b)
      | some y =>
        rcases hH b y q with ⟨rfl, _, rfl⟩ | ⟨m, _⟩
        · have e1 := (held _ _ q).1
          rw [e] at e1
          rw [Option.some.inj e1]
          exact (held' _ _ (un.frzs _ _ _ q)).1
        · exact (nb m).elim
    have grown : ∀ p ∈ cs, ∃ more : Array Value, s'.heap.get? p.2 = some { cls := .none, data := .fields more } := fun p hp => by
      obtain ⟨more, q⟩ := un.tbls p.2 #[] (hT p hp)
      exact ⟨_, held' p.2 _ q⟩
    refine ⟨rfl, ⟨fun b o e => ?_, fun b o e => ?_⟩, hos, bare⟩
    · by_cases m : b ∈ cs.map (·.2)
      · obtain ⟨p, hp, rfl⟩ := List.mem_map.mp m
        obtain ⟨more, hm⟩ := grown p hp
        rw [tabs p hp] at e
        cases e
        exact .inr (.inl ⟨((hd p hp).tab (tabs p hp)).isCodeTable, rfl, #[], more, rfl, by rw [Array.empty_append]; exact hm⟩)
      · exact .inl (kept b o m e)
    · by_cases m : b ∈ cs.map (·.2)
      · obtain ⟨p, hp, rfl⟩ := List.mem_map.mp m
        obtain ⟨more, hm⟩ := grown p hp
        exact ⟨_, hm⟩
      · exact ⟨o, kept b o m e⟩
/-- what the end asks at the head's heap -/
def LawTG (l : PySem.W.OpenLaw) (w : World) (K : PySem.W.Frag) (k n : Nat) (x : Str) (mg : Str → Option Value) (fa : Addr) (h : Heap) : Prop :=
  ∃ (fd : FuncData) (cs : List (Addr × Addr)) (sp : Sp), (∀ p ∈ cs, h.get? p.2 = some { cls := .none, data := .fields #[] }) ∧ (∀ p ∈ cs, K.lookup p.2 = none) ∧ (∀ p ∈ cs, PySem.W.CodeHd h p.1 p.2) ∧ (∀ (s : Shared) (u : Value), BindsTo s fd ⟨[u], []⟩ [(x, u)]) ∧
    (∀ (H : Hp) (a : Addr) (ns : List Int), ns.length ≤ n → (∀ p ∈ cs, H p.2 = some (.tbl #[])) → SqL K H a (ns.map V.int) → sp [.ref a] H (fun v _ => v = .bl true) fun _ _ _ => False) ∧
    ∀ base : Heap, K.In base → base.Ns mainGlobals mg → (∀ p ∈ cs, LamX.TabB base mg p.1 p.2) → FnG l.prog w K mg base k fa fd [x] sp
theorem walk_ofTG {l : PySem.W.OpenLaw} {n k : Nat} {q : Program} {loose : List Str} {XP : (Str → Option Value) → Heap → Prop} {YP : World → Heap → Prop} {d : DefRec} {K : Params → PySem.W.Frag} {x : Str}
    (hn : l.most = some n) (hn2 : n ≤ sizeLine) (hdf : d.params.defaults = []) (room : Room k callerA) (hY : ∀ (w : World) (h : Heap), YP w h → (K w.params).In h)
    (F : ∀ (w : World) (mg : Str → Option Value) (fa : Addr) (h : Heap), YP w h → (K w.params).In h → h.Ns mainGlobals mg → mg d.name = some (.ref fa) → LawTG l w (K w.params) k n x mg fa h) :
    PySem.W.WalkO q loose XP YP l.row.toRowW d [] (fun f vs => PySem.call f vs) := by
  refine Att.attach_callB hn hdf fun w s₀ z mg mb fa o pm cd doc a vs ns G Y ho hd hcd hmg hobj hints hlen hbits hg => ?_
  have KX := hY w _ Y
  obtain ⟨fd, cs, sp, hT, nT, C, hb, told, hF⟩ := F w mg fa _ Y KX G.T.g hmg
  exact runTG KX G.T.g G.T.b G.T.builtins G.T.nolimit hg hT nT C G.T.bmain hobj hints (Nat.le_trans hlen hn2) room hF hb fun H hH hS => told H a ns hlen hH hS
end Un

/-! UnLam: what raises, called by name; isinstance of a caught error of several kinds; a def that calls what it was handed; defs whose code object is told. -/
namespace Un
open PySem PySem.Spec PyProof.Rows L2
/-! ### isinstance(e, C), isinstance(e, (C, D)): e just caught, of an own class -/
def rIsC (K : PySem.W.Frag) (a : Addr) (cls : Value) (d : Option Addr) : List V → Hp → VK → Prop := fun xs H Q =>
  ∃ (D : Addr) (b : Bool), cls = .ref D ∧ ExcC K D ∧ (∀ dd, d = some dd → ∃ fs, H dd = some (.xd fs)) ∧ Q (.bl b) H ∧
    ((∃ c u, xs = [.ref a, c] ∧ ClsV c u ∧ PySem.W.kitOne K (.ref D) u = some b) ∨ (∃ tp cs us, xs = [.ref a, .ref tp] ∧ H tp = some (.tup cs) ∧ Paired ClsV cs us ∧ PySem.W.kitAny K (.ref D) us = some b))
theorem call_isC {X : Cx} {a : Addr} {oe : Obj} {cls : Value} {d : Option Addr} {pn : List (Addr × Obj)} (hz : Zc cls d oe) (hf : ∃ vs, oe.data = .fields vs) : CallR (X.suite a ((a, oe) :: pn)) (.builtin "isinstance") (rIsC X.K a cls d) := by
  intro pins s σ H xs us Q I r h
  obtain ⟨D, b, rfl, T, hd, q, h⟩ := h
  obtain ⟨ha, _⟩ := I.pin (a, oe) (List.mem_append_left _ List.mem_cons_self)
  obtain ⟨vs, hv⟩ := hf
  have Z : ∃ P : Heap → Prop, PySem.W.KitX X.K (.ref a) (.ref D) P ∧ P s.heap := by
    cases d with
    | none => exact ⟨_, PySem.W.handS_kitx_exc T.hg T.hk T.hs T.hd T.ha T.hn T.ht T.hm, show PySem.W.InstAt s.heap a oe D none from ⟨ha, hz.1, by unfold PySem.W.notCls; rw [hv] <;> rfl, by rw [hz.2]; trivial⟩⟩
    | some dd =>
      obtain ⟨fs, ea⟩ := hd dd rfl
      obtain ⟨mA, hns, hr⟩ := (show ObjOk X.prog X.w H s.heap dd (.xd fs) from I.hok dd _ ea)
      obtain ⟨od, ho, hl⟩ := lookIn_ns hns
      exact ⟨_, PySem.W.kitx_excD T.hg T.hk T.hs T.hd T.ha T.hn T.ht T.hm, show PySem.W.InstAt s.heap a oe D (some od) from ⟨ha, hz.1, by unfold PySem.W.notCls; rw [hv] <;> rfl, by rw [hz.2]; exact ho⟩⟩
  obtain ⟨P, z, p⟩ := Z
  rcases h with ⟨c, u, rfl, k, e⟩ | ⟨tp, cs, ws, rfl, hT, k, e⟩
  · obtain ⟨u1, u2, rfl, r1, r2⟩ := vals2 r
    cases (show u1 = Value.ref a from r1)
    have e2 := k.eq r2
    subst e2
    exact PySem.W.kia_one z I.kIn p e (fun z => nomatch z) fun tk => ⟨.bl b, H, I.tok tk, rfl, q⟩
  · obtain ⟨u1, u2, rfl, r1, r2⟩ := vals2 r
    cases (show u1 = Value.ref a from r1)
    cases (show u2 = Value.ref tp from r2)
    obtain ⟨_, its, rv, o, h1, h2, n, h3⟩ := (show ObjOk X.prog X.w H s.heap tp (.tup cs) from I.hok tp _ hT)
    have e3 := ClsV.all k rv
    subst e3
    obtain ⟨oc, od, dt, sl⟩ := o
    simp only at h2 h3
    subst h2 h3
    exact PySem.W.kia_tup z I.kIn p h1 e (fun z => nomatch z) fun tk => ⟨.bl b, H, I.tok tk, rfl, q⟩
theorem rd_isC1 {K : PySem.W.Frag} {a D C : Addr} {d : Option Addr} {H : Hp} {Q : VK} {b : Bool} (T : ExcC K D) (hd : ∀ dd, d = some dd → ∃ fs, H dd = some (.xd fs)) (k : PySem.W.kitOne K (.ref D) (.ref C) = some b) (q : Q (.bl b) H) : rIsC K a (.ref D) d [.ref a, .ref C] H Q :=
  ⟨D, b, rfl, T, hd, q, .inl ⟨_, _, rfl, .own C, k⟩⟩
theorem rd_isC2 {K : PySem.W.Frag} {a D C1 C2 tp : Addr} {d : Option Addr} {H : Hp} {Q : VK} (T : ExcC K D) (hd : ∀ dd, d = some dd → ∃ fs, H dd = some (.xd fs)) (ht : H tp = some (.tup [.ref C1, .ref C2])) (k1 : PySem.W.kitOne K (.ref D) (.ref C1) = some false) (k2 : PySem.W.kitOne K (.ref D) (.ref C2) = some false)
    (q : Q (.bl false) H) : rIsC K a (.ref D) d [.ref a, .ref tp] H Q :=
  ⟨D, false, rfl, T, hd, q, .inr ⟨tp, _, [.ref C1, .ref C2], rfl, ht, .cons (.own C1) (.cons (.own C2) .nil), kitAny_cons k1 (fun _ => kitAny_cons k2 (fun _ => kitAny_nil) fun h => by cases h) fun h => by cases h⟩⟩
/-! ### what raises, called by name -/
section
variable {X : Cx} {C : Addr} {m x : Str} {ps : List Str} {k j n : Nat} {sp : Sp} {e o : Expr} {es : List Expr} {kws : List Keyword} {ta : TE} {t tk' : TA} {p pos apos : Pos} {dvs : List V} {ks : List Str} {gV : List V → List V → List V} {E : XK}
theorem set_GX (g : MetG X.prog X.w X.K X.mg X.base (L2.CX X.prog X.w) C "__setitem__" ps k sp) (hq : PySem.W.noSeq X.K C = true) (hr : Room j X.A) (hk : k ≤ j) (tk : Takes X fun cls d _ H => E cls d H) : PSet X (rSetO C sp E) := by
  obtain ⟨f, fd, c, M, F, i, b⟩ := g
  exact set_own M hq F (hr.mono hk) b (passes_call tk fun _ _ _ _ h => h)
/-- C(e, ..), where the __init__ may raise -/
def MakX (P : Program) (w : World) (K : PySem.W.Frag) (mg : Str → Option Value) (base : Heap) (x : Str) (C : Addr) (k : Nat) (sp : Sp) (dvs : List V) : Prop :=
  ∃ (f : Addr) (fd : FuncData) (ps : List Str) (ds : List Value), L2.Mk K C f ∧ FnOk P w K mg base (L2.CX P w) k f fd ps sp ∧ mg x = some (.ref C) ∧ Binds K fd ps ds ∧ Vals dvs ds
theorem pe_mkDX (g : MakX X.prog X.w X.K X.mg X.base x C k sp dvs) (hr : Room j X.A) (hk : k + 1 ≤ j) (hg : Gl X x) (tk : Takes X fun cls d _ H => E cls d H) (ha : PA X (e :: es) t)
    (hdb : (x == ("__debug__" : Str)) = false := by decide) (he : starEach (e :: es) X.env = (false, eval e X.env) :: starEach es X.env := by rfl) (hpl : (backTo pos (starEach es X.env)).any (·.1) = false := by rfl) :
    PE X (.Call (.Name x p) (e :: es) [] pos) (tMake C sp dvs E t) := by
  obtain ⟨f, fd, ps, ds, M, F, hm, b, d⟩ := g
  exact pe_make M F (hr.mono hk) hg hm b d (passes_call tk fun _ _ _ _ h => h) ha hdb he hpl
def MetDX (P : Program) (w : World) (K : PySem.W.Frag) (mg : Str → Option Value) (base : Heap) (C : Addr) (m : Str) (k : Nat) (sp : Sp) (dvs : List V) : Prop :=
  ∃ (f : Addr) (fd : FuncData) (ps : List Str) (ds : List Value), Cls K C ∧ Meth K C m f ∧ FnOk P w K mg base (L2.CX P w) k f fd ps sp ∧ Binds K fd ps ds ∧ Vals dvs ds
theorem pe_mtDX {pl : Sem Bool} (g : MetDX X.prog X.w X.K X.mg X.base C m k sp dvs) (hr : Room j X.A) (hk : k ≤ j) (tk : Takes X fun cls d _ H => E cls d H) (he : PE X o ta) (ha : PA X (e :: es) t)
    (hst : starEach (e :: es) X.env = (false, eval e X.env) :: starEach es X.env := by rfl) (hpl : (backTo pos (starEach es X.env)).any (·.1) = false := by rfl)
    (ht : eval (.Call (.Attribute o m apos) (e :: es) [] pos) X.env = (do let ov ← eval o X.env; standAt apos.atName; let (f, first) ← holding [ov] (getMethod ov m pl); callWith pos f first (backTo pos (starEach (e :: es) X.env)) (backToKw pos (keywordEach [] X.env))) := by rfl) :
    PE X (.Call (.Attribute o m apos) (e :: es) [] pos) (tMeth C m sp dvs E ta t) := by
  obtain ⟨f, fd, ps, ds, c, M, F, b, d⟩ := g
  exact pe_meth (pl := pl) he c M F (hr.mono hk) b d (passes_call tk fun _ _ _ _ h => h) ha hst hpl ht
def MetKX (P : Program) (w : World) (K : PySem.W.Frag) (mg : Str → Option Value) (base : Heap) (C : Addr) (m : Str) (n : Nat) (ks : List Str) (k : Nat) (sp : Sp) (gV : List V → List V → List V) : Prop :=
  ∃ (f : Addr) (fd : FuncData) (ps : List Str) (g : List Value → List Value → List Value), Cls K C ∧ Meth K C m f ∧ FnOk P w K mg base (L2.CX P w) k f fd ps sp ∧ KBn K fd ps n ks g gV
theorem methN_GX {pl : Sem Bool} (q : MetKX X.prog X.w X.K X.mg X.base C m n ks k sp gV) (hr : Room j X.A) (hk : k ≤ j) (tk : Takes X fun cls d _ H => E cls d H) (he : PE X o ta) (ha : PA X (e :: es) t) (hkw : PK X kws tk')
    (hall : (backToKw pos (keywordEach kws X.env)).all (·.1.isSome) = true := by rfl) (hks : (backToKw pos (keywordEach kws X.env)).filterMap (·.1) = ks := by rfl)
    (hst : starEach (e :: es) X.env = (false, eval e X.env) :: starEach es X.env := by rfl)
    (hpl : ((backTo pos (starEach (e :: es) X.env)).any (·.1) || (backToKw pos (keywordEach kws X.env)).any (·.1.isNone)) = false := by rfl)
    (ht : eval (.Call (.Attribute o m apos) (e :: es) kws pos) X.env = (do let ov ← eval o X.env; standAt apos.atName; let (f, first) ← holding [ov] (getMethod ov m pl); callWith pos f first (backTo pos (starEach (e :: es) X.env)) (backToKw pos (keywordEach kws X.env))) := by rfl) :
    PE X (.Call (.Attribute o m apos) (e :: es) kws pos) (tMethN C m n ks.length sp gV E ta t tk') := by
  obtain ⟨f, fd, ps, g, c, M, F, hb⟩ := q
  exact pe_methN (pl := pl) he c M F (hr.mono hk) hb (passes_call tk fun _ _ _ _ h => h) ha hkw hall hks hst hpl ht
end
/-! ### defs whose code object is told -/
structure FunC (K : PySem.W.Frag) (x qual : Str) (st : Stmt) (f : Addr) (fd : FuncData) (c : Addr) : Prop where
  ex : ∃ (oc : Value) (od : Option Addr) (kV doc pm : Value) (an : Option Addr) (ct : Value) (osl : Array (Option Value)),
    fd = PySem.W.fnOf x qual (defArgs st) (defBody st) (defScope st) .none kV doc pm an (.ref c) ct ∧ K.lookup f = some ⟨oc, od, .func fd, osl⟩ ∧ PySem.W.codeIn K (.ref c) qual = true
  kp : PySem.W.keepIn K (.ref f) = true
def AtC (K : PySem.W.Frag) (mg : Str → Option Value) (nm : Str) (st : Stmt) (ps : List Str) (c : Addr) : Prop :=
  ∃ (f : Addr) (fd : FuncData), FunC K nm nm st f fd c ∧ mg nm = some (.ref f) ∧ Binds K fd ps []
section
variable {P : Program} {w : World} {K : PySem.W.Frag} {mg : Str → Option Value} {base : Heap}
theorem okGC {nm qual : Str} {st : Stmt} {f c : Addr} {fd : FuncData} {N ps : List Str} {k : Nat} {sp : Sp} (F : FunC K nm qual st f fd c) (S : FnScope N ps (defScope st)) (hlen : ∀ vs H Q E, sp vs H Q E → vs.length = ps.length)
    (hb : ∀ (A : Around) (outer : List Env) (s : Shared) (H : Hp) (vs : List V) (Q : VK) (E : XK), A.guards = some [] → Room k (A.deeper (envOfC qual (defScope st) s.heap.objs.size f (.ref c))) → sp vs H Q E →
      ∃ t, PSs (cxOf CX0 P w K mg base N qual (defScope st) f (.ref c) A outer s H E).nox (defBody st) t ∧ t { nx := fun _ H' => Q .non H', rt := Q } (start N vs) H) : FnG P w K mg base (k + 1) f fd ps sp := by
  obtain ⟨c1, c2, c3, c4, c5, c6, c7, c8, rfl, look, code⟩ := F.ex
  refine ⟨hlen, fun A outer s H args us vs Q E gA room e0 bd rel asked => ?_⟩
  have inHeap : K.In s.heap := e0.mod.kin.keeps fun b o hbo => (e0.bs b o hbo).1
  have free := e0.mod.nolimit.keeps (h' := s.heap) fun b o hbo => (e0.bs b o hbo).1
  have kinds : ∀ y ∈ ps.zip us, (defScope st).names.lookup y.1 = some .local ∨ ((defScope st).names.lookup y.1 = some .cell ∧ ((cellsFrom (s.heap.objs.size + 1) (defScope st).names []).lookup y.1).isSome = true) := by
    rintro ⟨n, v⟩ hy
    exact (S.par n (List.of_mem_zip hy).1).imp id fun hc => ⟨hc, PySem.W.cellsFrom_some _ _ _ (.inl hc)⟩
  refine codeAny_call_function room.depth (inHeap _ _ look) rfl S.co S.gen rfl (PySem.W.codeRec_of inHeap code) (bd _ _ _ _ ?_)
  refine wpAny_newFunctionEnv_cells S.kind kinds fun env henv s1 entry => ?_
  subst henv
  obtain ⟨t, ht, hq⟩ := hb A outer s H vs Q E gA (room.deeper _) asked
  have I0 : Inv (cxOf CX0 P w K mg base N qual (defScope st) f (.ref c) A outer s H E) [] (start N vs) H s1 := inv_start S room.hd e0 (hlen _ _ _ _ asked) rel entry
  refine ⟨free.keeps entry.toInCall.keep, codeAny_func (wpAny_mono (ht.nox.run [] s1 (start N vs) H _ I0 hq) (fun flow s' hs => ?_) fun e s' hs => hs)⟩
  cases flow with
  | ret u => exact match hs with | ⟨v, σ', H', J, rv, q⟩ => ⟨v, H', J.os, J.bare, J.base, J.hok, rv, q⟩
  | next => exact match hs with | ⟨σ', H', J, q⟩ => ⟨V.non, H', J.os, J.bare, J.base, J.hok, rfl, q⟩
  | brk => exact match hs with | ⟨_, _, _, q⟩ => False.elim q
  | cont => exact match hs with | ⟨_, _, _, q⟩ => False.elim q
theorem clGC_of {nm : Str} {st : Stmt} {ps : List Str} {k : Nat} {sp : Sp} {c : Addr} (a : AtC K mg nm st ps c) (h : ∀ f fd, FunC K nm nm st f fd c → FnG P w K mg base k f fd ps sp) : ClG P w K mg base nm ps k sp := by
  obtain ⟨f, fd, F, m, b⟩ := a
  exact ⟨f, fd, m, h f fd F, F.kp, b⟩
end
/-! ### a def that calls what it was handed -/
section
variable {X : Cx}
theorem takes_len {W : WX} (tk : Takes X W) : Takes X (fun cls d σ H => σ.length = X.N.length → W cls d σ H) := fun u s' ⟨a, B, sI, pins, σ, H, cls, d, e, I, nb, up, sky, na, os, ag, w⟩ =>
  tk u s' ⟨a, B, sI, pins, σ, H, cls, d, e, I, nb, up, sky, na, os, ag, w I.len⟩
def tAct (n : Nat) (f c' : Addr) (q : Str) (tl : XK → Hp → VK → Prop) (W : WX) : TE := fun σ H Q => ∃ Ech : XK, (∀ cls d σ' H', σ'.length = n → Ech cls d H' → W cls d σ' H') ∧ σ[0]? = some (some (.ref f)) ∧ H c' = some (LamX.CodeO c' q) ∧ tl Ech H Q
theorem pe_tact {Y : Cx} {f c' : Addr} {q a : Str} {tl : XK → Hp → VK → Prop} {p1 p2 : Pos}
    (act : ∀ (W : WX) (pn : List (Addr × Obj)) (xe : Value → Shared → Prop) (E : XK) (p1 p2 : Pos), Takes (Y.tr pn xe) W → (∀ cls d σ' H', E cls d H' → W cls d σ' H') →
      PE (Y.tr pn xe) (.Call (.Name a p1) [] [] p2) (fun σZ HZ Q => σZ[0]? = some (some (.ref f)) ∧ HZ c' = some (LamX.CodeO c' q) ∧ tl E HZ Q))
    {W : WX} {pn : List (Addr × Obj)} {xe : Value → Shared → Prop} (tk : Takes (Y.tr pn xe) W) : PE (Y.tr pn xe) (.Call (.Name a p1) [] [] p2) (tAct Y.N.length f c' q tl W) := by
  refine ⟨fun pins s σ H Q I h => ?_⟩
  obtain ⟨E, hW, h⟩ := h
  exact (act _ pn xe E p1 p2 (takes_len tk) fun cls d σ' H' e hl => hW cls d σ' H' hl e).run pins s σ H Q I h
/-- x(lambda: body), x a def as it stands -/
theorem pe_lamG {x a : Str} {st : Stmt} {Ng : List Str} {T : List (Addr × Str)} {TT : (XK → Hp → VK → Prop) → Hp → VK → Prop} {t : XK → TE} {c P : Addr} {k : Nat} {params : Arguments} {body : Expr} {scope : Scope} {p lpos pos : Pos}
    (A : At X.K X.mg x st [a]) (hg : Gl X x) (Sg : FnScope Ng [a] (defScope st)) (hNg : Ng[0]? = some a) (hva : Vis (defScope st) a) (hG : ∀ (g : Addr) (cdg : Value), LamX.GivesTo X Ng x (defScope st) g cdg (defBody st) a (X.env.qual ++ "<lambda>") TT)
    (TB : LamX.TabB X.base X.mg c P) (hcode : X.env.code = .ref c) (hmT : (P, X.env.qual ++ "<lambda>") ∈ T) (hu : ∀ p ∈ T, p.1 = P → p.2 = X.env.qual ++ "<lambda>") (hr : Room (k + 2) X.A) (L : LamX.LamS X.env.scope scope) (hdef : defaultsOf params X.env = ([], []))
    (hbind : ∀ (q : Str) (cl : List (Str × Addr)) (pm cv ctv : Value), bindArgs (PySem.W.kla_fn "<lambda>" q params body scope cl pm cv ctv) ⟨[], []⟩ = pure [])
    (hbody : ∀ (A : Around) (outer : List Env) (s : Shared) (H : Hp) (E : XK) (f c' : Addr), Room k (A.deeper (LamX.lamEnv X scope s.heap.objs.size f c')) → PE (LamX.lamCx X A outer s H E scope f c') body (t E))
    (hdb : (x == ("__debug__" : Str)) = false := by decide) (hd : (a == ("__debug__" : Str)) = false := by decide) (hcd : (a == ("__classdict__" : Str)) = false := by decide) :
    PE X (.Call (.Name x p) [.Lambda params body scope lpos] [] pos) (LamX.tLam T TT t) := by
  obtain ⟨f, fd, F, m, b⟩ := A
  obtain ⟨oc, od, kV, doc, pm, an, cdv, ct, osl, rfl, lk, hc⟩ := F.ex
  exact LamX.pe_lamcall (dV := .none) hg m F.kp lk hc b Sg hNg hva (hG f cdv) TB hcode hmT hu hr L hdef hbind hbody hdb hd hcd
end
end Un

/-! UnRev: text[::-1]. -/
namespace Un
open PySem PySem.Spec PyProof.Rows L2
def tRevS (te : TE) : TE := fun σ H Q => te σ H fun x H1 => ∃ l, x = .str (tx l) ∧ l.length ≤ sizeLine ∧ Q (.str (tx l.reverse)) H1
theorem rev_picked (l : List Nat) (t1 : Tok) : ((slicePicked (tx l) none none (some (-1, t1))).filterMap ((tx l).cps[·]?)) = l.reverse := by
  show ((PySem.sliceRange (((tx l).length : Int) - 1) (-1) (-1)).filterMap ((tx l).cps[·]?)) = l.reverse
  rw [PySem.W.krv_sliceRange, PySem.W.krv_range, List.filterMap_reverse]
  have e : (List.range (tx l).length).filterMap ((tx l).cps[·]?) = (tx l).cps.toList := PySem.W.krv_all _
  rw [e, tx_cps]
theorem pe_revS {X : Cx} {e : Expr} {te : TE} {k : Nat} {p1 p2 p3 pos : Pos} (he : PE X e te) : PE X (.Subscript e (.Slice none none (some (.UnaryOp .USub (.Constant (.int 1) k p1) p2)) p3) pos) (tRevS te) := by
  refine ⟨fun pins s σ H Q I h => ?_⟩
  refine Subscript_ (thn (he.run pins s σ H _ I h) fun v s1 ⟨x, H1, I1, r1, q1⟩ => ?_)
  obtain ⟨z, ex, hz, q⟩ := q1
  subst ex
  obtain ⟨t, rfl⟩ := r1
  have hst : PO X (some (.UnaryOp .USub (.Constant (.int 1) k p1) p2)) (tPart (tUn (rU fun i => .int (-i)) (tC (.int 1)))) := po_some (pe_un un_neg pe_int)
  refine wpAny_Slice (thn (po_none.run pins s1 σ H1 (fun o H2 => o = none ∧ H2 = H1) I1 ⟨rfl, rfl⟩) fun vl s2 ⟨l, H2, I2, pl, el, e2⟩ => ?_)
  subst el e2
  refine thn (po_none.run pins s2 σ H2 (fun o H3 => o = none ∧ H3 = H2) I2 ⟨rfl, rfl⟩) fun vu s3 ⟨u, H3, I3, pu, eu, e3⟩ => ?_
  subst eu e3
  refine thn (hst.run pins s3 σ H3 (fun o H4 => o = some (-1) ∧ H4 = H3) I3 ⟨1, rfl, -1, rfl, rfl, rfl⟩) fun vs s4 ⟨o, H4, I4, ps, eo, e4⟩ => ?_
  subst eo e4
  have I5 : Inv X pins σ H4 { s4 with heap := s4.heap.push { cls := .type "slice", data := .fields #[vl, vu, vs] } } := I4.kept (t' := s4.toks) fun b ob q => Heap.get?_push_of_some _ q
  obtain ⟨a1, rfl, f1⟩ := IsPart.raw pl
  obtain ⟨a2, rfl, f2⟩ := IsPart.raw pu
  obtain ⟨a3, rfl, f3⟩ := IsPart.raw ps
  cases a1 with
  | some _ => cases f1
  | none =>
  cases a2 with
  | some _ => cases f2
  | none =>
  cases a3 with
  | none => cases f3
  | some c =>
  obtain ⟨ci, ct⟩ := c
  have hci : ci = -1 := Option.some.inj f3
  subst hci
  show wpAny (model X.prog X.w) X.A (subscriptTail e (.Slice none none (some (.UnaryOp .USub (.Constant (.int 1) k p1) p2)) p3) (.str (tx z) t) (.ref s4.heap.objs.size)) (EP X pins σ Q) X.xe _
  refine tail_any (ops := [.str (tx z) t, .ref s4.heap.objs.size]) (typeIs_str _ _ _) (PySem.F.slot_str_getitem.lookup) ?_ (by with_unfolding_all rfl)
  refine wpAny_getItem_str_slice (l := none) (u := none) (st := some (-1, ct)) ⟨_, Heap.get?_push_size _ rfl, rfl, rfl⟩ rfl ?_
  unfold sliceMade
  have hneg : ¬ (((Option.map (fun x : Int × Tok => x.1) (some ((-1 : Int), ct))).getD 1 == 1 && (slicePicked (tx z) none none (some (-1, ct))).length == (tx z).length) = true) := by
    show ¬ (((-1 : Int) == 1 && _) = true)
    simp
  rw [if_neg hneg, rev_picked]
  exact ⟨by show (tx z.reverse).length ≤ sizeLine; rw [tx_len, List.length_reverse]; exact hz, .str _, H4, I5.tok _, ⟨_, rfl⟩, q⟩
theorem rd_revS {te : TE} {σ : L2.St} {H : Hp} {Q : VK} (h : te σ H fun x H1 => ∃ l, x = .str (tx l) ∧ l.length ≤ sizeLine ∧ Q (.str (tx l.reverse)) H1) : tRevS te σ H Q := h
end Un

/-! UnTy: what stays where nothing but tables of code objects changes. -/
namespace Un
open PySem PySem.Spec PyProof.Rows L2
abbrev ExtN := LamX.ExtN
theorem Same.ext {H H' : Hp} (s : Same H H') : ExtN H H' := fun b o h _ => s b o h
theorem tyX_ext {K : PySem.W.Frag} {H H' : Hp} {x : V} {t : Value} (s : ExtN H H') (h : TyX K H x t) : TyX K H' x t := by
  cases h with
  | base h =>
    cases h with
    | non => exact .base .non
    | bl x => exact .base (.bl x)
    | int i => exact .base (.int i)
    | str x => exact .base (.str x)
    | flt x => exact .base (.flt x)
    | lst e => exact .base (.lst (s _ _ e fun _ z => by cases z))
    | frz e => exact .base (.frz (s _ _ e fun _ z => by cases z))
    | tup e => exact .base (.tup (s _ _ e fun _ z => by cases z))
    | dK e => exact .base (.dK (s _ _ e fun _ z => by cases z))
    | dT e => exact .base (.dT (s _ _ e fun _ z => by cases z))
    | ins e cl ha hn htk hm => exact .base (.ins (s _ _ e fun _ z => by cases z) cl ha hn htk hm)
  | byt b => exact .byt b
  | set e => exact .set (s _ _ e fun _ z => by cases z)
  | kList e c => exact .kList e c
  | kTuple e c => exact .kTuple e c
  | kDict e c => exact .kDict e c
  | fTuple e => exact .fTuple (s _ _ e fun _ z => by cases z)
  | fDict e => exact .fDict (s _ _ e fun _ z => by cases z)
theorem sqL_ext {K : PySem.W.Frag} {H H' : Hp} {a : Addr} {ys : List V} (h : SqL K H a ys) (s : ExtN H H') : SqL K H' a ys := by
  rcases h with (h | ⟨o, h⟩) | h
  · exact .inl (.inl (s _ _ h fun _ z => by cases z))
  · exact .inl (.inr ⟨o, s _ _ h fun _ z => by cases z⟩)
  · exact .inr h
theorem sqT_ext {K : PySem.W.Frag} {H H' : Hp} {a : Addr} {ys : List V} (h : SqT K H a ys) (s : ExtN H H') : SqT K H' a ys := by
  rcases h with (h | ⟨o, h⟩) | h
  · exact .inl (.inl (s _ _ h fun _ z => by cases z))
  · exact .inl (.inr ⟨o, s _ _ h fun _ z => by cases z⟩)
  · exact .inr h
mutual
theorem Dp.ext {K : PySem.W.Frag} {H H' : Hp} (s : ExtN H H') : ∀ {v : V} {d : PyData}, Dp K H v d → Dp K H' v d
  | _, _, .non => .non
  | _, _, .bl b => .bl b
  | _, _, .int i => .int i
  | _, _, .str x => .str x
  | _, _, .lst h t => .lst (sqL_ext h s) (DpAll.ext s t)
  | _, _, .tup h t => .tup (sqT_ext h s) (DpAll.ext s t)
theorem DpAll.ext {K : PySem.W.Frag} {H H' : Hp} (s : ExtN H H') : ∀ {vs : List V} {ds : List PyData}, DpAll K H vs ds → DpAll K H' vs ds
  | _, _, .nil => .nil
  | _, _, .cons h t => .cons (Dp.ext s h) (DpAll.ext s t)
end
theorem all_good {z w : Nat} : ∀ {ds : List PyData}, (∀ d ∈ ds, GoodZ z w d) → PyData.showableAll ds = true ∧ PyData.hasDictAll ds = false ∧ PyData.depthAll ds ≤ z ∧ PyData.leavesShortAll 62 ds = true ∧ PyData.weightAll ds ≤ (w + 1) * ds.length
  | [], _ => ⟨rfl, rfl, Nat.zero_le _, rfl, Nat.zero_le _⟩
  | d :: r, h => by
    obtain ⟨h1, h2, h3, h4, h5⟩ := all_good (ds := r) fun e he => h e (List.mem_cons_of_mem _ he)
    have g := h d List.mem_cons_self
    have gz := g.z
    have gw := g.w
    refine ⟨?_, ?_, ?_, ?_, ?_⟩
    · simp only [PyData.showableAll, g.s, h1, Bool.and_true]
    · simp only [PyData.hasDictAll, g.n, h2, Bool.or_false]
    · simp only [PyData.depthAll]
      omega
    · simp only [PyData.leavesShortAll, g.l, h4, Bool.and_true]
    · simp only [PyData.weightAll, List.length_cons]
      have e : (w + 1) * (r.length + 1) = (w + 1) * r.length + (w + 1) := by rw [Nat.mul_add, Nat.mul_one]
      omega
theorem list_good {z w : Nat} {ds : List PyData} (h : ∀ d ∈ ds, GoodZ z w d) : GoodZ (z + 1) ((w + 1) * ds.length + 1) (.list ds) := by
  obtain ⟨h1, h2, h3, h4, h5⟩ := all_good h
  refine ⟨?_, ?_, ?_, ?_, ?_⟩
  · simp only [PyData.showable, h1]
  · simp only [PyData.hasDict, h2]
  · simp only [PyData.depth]
    omega
  · simp only [PyData.leavesShort, h4]
  · simp only [PyData.weight]
    omega
theorem tup_good {z w : Nat} {ds : List PyData} (h : ∀ d ∈ ds, GoodZ z w d) : GoodZ (z + 1) ((w + 1) * ds.length + 1) (.tuple ds) := by
  obtain ⟨h1, h2, h3, h4, h5⟩ := all_good h
  refine ⟨?_, ?_, ?_, ?_, ?_⟩
  · simp only [PyData.showable, h1]
  · simp only [PyData.hasDict, h2]
  · simp only [PyData.depth]
    omega
  · simp only [PyData.leavesShort, h4]
  · simp only [PyData.weight]
    omega
theorem non_good : GoodZ 0 0 .none := ⟨rfl, rfl, by decide +kernel, rfl, by decide +kernel⟩
theorem one_mem {α : Type} {P : α → Prop} {a : α} (h : P a) : ∀ x ∈ [a], P x := fun x hx => by rw [List.mem_singleton.mp hx]; exact h
theorem two_mem {α : Type} {P : α → Prop} {a b : α} (h : P a) (k : P b) : ∀ x ∈ [a, b], P x := fun x hx => by
  rcases List.mem_cons.mp hx with e | hx
  · rw [e]
    exact h
  · rw [List.mem_singleton.mp hx]
    exact k
theorem lay_all : ∀ {ds : List PyData}, (∀ d ∈ ds, d.canLay0 = true) → PyData.canLayAll0 ds = true
  | [], _ => by simp only [PyData.canLayAll0]
  | d :: r, h => by
    simp only [PyData.canLayAll0, h d List.mem_cons_self, lay_all (ds := r) fun e he => h e (List.mem_cons_of_mem _ he), Bool.and_true]
theorem lay_list {ds : List PyData} (h : ∀ d ∈ ds, d.canLay0 = true) : (PyData.list ds).canLay0 = true := by simp only [PyData.canLay0, lay_all h]
theorem lay_tup {ds : List PyData} (h : ∀ d ∈ ds, d.canLay0 = true) : (PyData.tuple ds).canLay0 = true := by simp only [PyData.canLay0, lay_all h]
theorem lay_str {l : List Nat} (h : ∀ c ∈ l, c < 1000) : (PyData.str (tx l)).canLay0 = true := by
  simp only [PyData.canLay0, PyData.strOk]
  rw [← Array.all_toList, tx_cps, List.all_eq_true]
  exact fun c hc => decide_eq_true (by have := h c hc; omega)
theorem shaped_good {z w : Nat} {d : PyData} (g : GoodZ z w d) (hz : z ≤ 64) (h : d.canLay0 = true) : SeqAt.shaped d = true := by
  unfold SeqAt.shaped
  rw [h, Bool.true_and]
  exact decide_eq_true (Nat.le_trans g.z hz)
theorem dpAll_app {K : PySem.W.Frag} {H : Hp} : ∀ {vs ws : List V} {ds es : List PyData}, DpAll K H vs ds → DpAll K H ws es → DpAll K H (vs ++ ws) (ds ++ es)
  | _, _, _, _, .nil, b => b
  | _, _, _, _, .cons h t, b => .cons h (dpAll_app t b)
theorem dpAll_take {K : PySem.W.Frag} {H : Hp} : ∀ {vs : List V} {ds : List PyData} (n : Nat), DpAll K H vs ds → DpAll K H (vs.take n) (ds.take n)
  | _, _, 0, _ => .nil
  | _, _, n + 1, .nil => .nil
  | _, _, n + 1, .cons h t => .cons h (dpAll_take n t)
theorem dpAll_drop {K : PySem.W.Frag} {H : Hp} : ∀ {vs : List V} {ds : List PyData} (n : Nat), DpAll K H vs ds → DpAll K H (vs.drop n) (ds.drop n)
  | _, _, 0, h => h
  | _, _, n + 1, .nil => .nil
  | _, _, n + 1, .cons h t => dpAll_drop n t
end Un

local macro_rules | `(tactic| walk_at "rd") => `(tactic| first
  | with_reducible refine' Un.rd_seq ?_
  | with_reducible refine' Un.rd_asg ?_
  | with_reducible refine' Un.rd_gname ?_
  | ((with_reducible refine' Un.rd_var ?k1 ?_); (case k1 => rfl))
  | with_reducible refine' Un.rd_c ?_
  | with_reducible refine' Un.rd_op ?_
  | with_reducible refine' Un.rd_I0 ?_
  | with_reducible refine' Un.rd_test ?_
  | with_reducible refine' Un.rd_bl ?_
  | with_reducible refine' Un.rd_ifS ?_
  | with_reducible refine' Un.rd_call ?_
  | with_reducible refine' Un.rd_cons ?_
  | with_reducible refine' Un.rd_nil ?_
  | with_reducible refine' Un.rd_ret ?_
  | with_reducible refine' Un.rd_retN ?_
  | with_reducible refine' Un.rd_drop ?_
  | with_reducible refine' Un.rd_next ?_
  | with_reducible refine' Un.rd_break ?_
  | with_reducible refine' Un.rd_cont ?_
  | with_reducible refine' Un.rd_cb ?_
  | with_reducible refine' Un.rd_bm ?_
  | with_reducible refine' Un.rd_bm0 ?_
  | with_reducible refine' Un.rd_tyS ?_
  | with_reducible refine' Un.rd_lst ?_
  | with_reducible refine' Un.rd_tup ?_
  | with_reducible refine' Un.rd_sl ?_
  | with_reducible refine' Un.rd_part ?_
  | with_reducible refine' Un.rd_some ?_
  | with_reducible refine' Un.rd_nopart ?_
  | with_reducible refine' Un.rd_un ?_
  | with_reducible refine' Un.rd_U ?_
  | with_reducible refine' Un.rd_B ?_
  | with_reducible refine' Un.rd_and ?_
  | with_reducible refine' Un.rd_or ?_
  | with_reducible refine' Un.rd_not ?_
  | with_reducible refine' Un.rd_andV ?_
  | with_reducible refine' Un.rd_orV ?_
  | with_reducible refine' Un.rd_notV ?_
  | with_reducible refine' Un.rd_if ?_
  | with_reducible refine' Un.rd_gsub ?_
  | with_reducible refine' Un.rd_gnil ?_
  | with_reducible refine' Un.rd_gcons ?_
  | with_reducible refine' Un.rd_two ?_
  | with_reducible refine' Un.rd_ltX ?_
  | with_reducible refine' Un.rd_inX ?_
  | ((with_reducible refine' Un.rd_eq ?k1 ?_); (case k1 => rfl))
  | ((with_reducible refine' Un.rd_ne ?k1 ?_); (case k1 => rfl))
  | with_reducible refine' Un.rd_intI ?_
  | with_reducible refine' Un.rd_intB ?_
  | with_reducible refine' Un.rd_strS ?_
  | with_reducible refine' Un.rd_strE ?_
  | with_reducible refine' Un.rd_one ?_
  | with_reducible refine' Un.rd_par ?_
  | with_reducible refine' Un.rd_revL ?_
  | with_reducible refine' Un.rd_lc ?_
  | with_reducible refine' Un.rd_iList ?_
  | with_reducible refine' Un.rd_iStr ?_
  | with_reducible refine' Un.rd_iTup ?_
  | with_reducible refine' Un.rd_for ?_
  | with_reducible refine' Un.rd_rng1 ?_
  | with_reducible refine' Un.rd_rng2 ?_
  | with_reducible refine' Un.rd_yes ?_
  | with_reducible refine' Un.rd_startX ?_
  | with_reducible refine' Un.rd_leX ?_
  | with_reducible refine' Un.rd_isN1 ?_
  | with_reducible refine' Un.rd_notN1 ?_
  | with_reducible refine' Un.rd_maxX ?_
  | with_reducible refine' Un.rd_iEnumX (l := []) ?_)
local macro_rules | `(tactic| walk_at "rds") => `(tactic| repeat walk_at "rd")

local macro_rules | `(tactic| walk_at "rd") => `(tactic| first
  | with_reducible refine' Un.rd_fld ?_
  | with_reducible refine' Un.rd_sfld ?_
  | with_reducible refine' Un.rd_dput ?_
  | with_reducible refine' Un.rd_dget ?_
  | with_reducible refine' Un.rd_din ?_
  | with_reducible refine' Un.rd_dnotin ?_
  | with_reducible refine' Un.rd_ddel ?_
  | with_reducible refine' Un.rd_dnew ?_
  | with_reducible refine' Un.rd_make ?_
  | with_reducible refine' Un.rd_meth ?_
  | with_reducible refine' Un.rd_methN ?_
  | with_reducible refine' Un.rd_iKeys ?_
  | with_reducible refine' Un.rd_items ?_
  | with_reducible refine' Un.rd_mkR ?_
  | with_reducible refine' Un.rd_pop1 ?_
  | with_reducible refine' Un.rd_get2 ?_
  | with_reducible refine' Un.rd_gtX ?_)

local macro_rules | `(tactic| walk_at "rd") => `(tactic| first
  | with_reducible refine' Un.rd_mkX ?_
  | with_reducible refine' Un.rd_xfl ?_
  | with_reducible refine' Un.rd_clX ?_
  | with_reducible refine' Un.rd_iZipS ?_
  | with_reducible refine' Un.rd_chain ?_
  | with_reducible refine' Un.rd_zipS2 ?_
  | with_reducible refine' Un.rd_mkN0 ?_
  | with_reducible refine' Un.rd_iEnum ?_
  | with_reducible refine' Un.rd_par3 ?_
  | with_reducible refine' Un.rd_three ?_)
namespace Zk47
open PySem PySem.Spec PyProof.Rows L2 Un
--T
--U UnderError
--U InvalidLetters
--U NoText
--U NoValue
--U NoKey
--H x_NoText : PySem.W.exmOne K (.ref @NoText) (.ref @UnderError) = some true
--H x_NoValue : PySem.W.exmOne K (.ref @NoValue) (.ref @UnderError) = some true
--H x_InvalidLetters : PySem.W.exmOne K (.ref @InvalidLetters) (.ref @UnderError) = some true
--H x_NoKey : PySem.W.exmOne K (.ref @NoKey) (.ref @UnderError) = some false
--H k_NoText_NoText : PySem.W.kitOne K (.ref @NoText) (.ref @NoText) = some true
--H k_NoText_NoValue : PySem.W.kitOne K (.ref @NoText) (.ref @NoValue) = some false
--H k_NoText_InvalidLetters : PySem.W.kitOne K (.ref @NoText) (.ref @InvalidLetters) = some false
--H k_NoValue_NoText : PySem.W.kitOne K (.ref @NoValue) (.ref @NoText) = some false
--H k_NoValue_NoValue : PySem.W.kitOne K (.ref @NoValue) (.ref @NoValue) = some true
--H k_NoValue_InvalidLetters : PySem.W.kitOne K (.ref @NoValue) (.ref @InvalidLetters) = some false
--H k_InvalidLetters_NoText : PySem.W.kitOne K (.ref @InvalidLetters) (.ref @NoText) = some false
--H k_InvalidLetters_NoValue : PySem.W.kitOne K (.ref @InvalidLetters) (.ref @NoValue) = some false
--H k_InvalidLetters_InvalidLetters : PySem.W.kitOne K (.ref @InvalidLetters) (.ref @InvalidLetters) = some true
--S _wall
--F Store letters
--F Store table
--M Store.__init__
--M Store.__setitem__
--M Store.__getitem__
--M Store.__contains__
--M Store.pairs
--M Store.fill
--X check_letters
--X check_value
--X Store
--X Store.__setitem__
--X Store.__getitem__
--X Store.fill
--X _law_put
--X _law_got
def topS (i : Nat) : Stmt := PySem.Challenge.pw_undername_k47_stores_refused.main.body.getD i (.Pass ⟨0, 0, 0, 0⟩)
abbrev s__wall : Stmt := topS 0
abbrev n__wall : List Str := ["k"]
theorem sc__wall : FnScope n__wall ["k"] (defScope s__wall) := ⟨rfl, rfl, rfl, by decide +kernel, rfl, by decide +kernel, by decide +kernel⟩
abbrev s_check_letters : Stmt := topS 11
abbrev n_check_letters : List Str := ["letters"]
theorem sc_check_letters : FnScope n_check_letters ["letters"] (defScope s_check_letters) := ⟨rfl, rfl, rfl, by decide +kernel, rfl, by decide +kernel, by decide +kernel⟩
abbrev s__are_letters : Stmt := topS 12
abbrev n__are_letters : List Str := ["value"]
theorem sc__are_letters : FnScope n__are_letters ["value"] (defScope s__are_letters) := ⟨rfl, rfl, rfl, by decide +kernel, rfl, by decide +kernel, by decide +kernel⟩
abbrev s__consists_of : Stmt := topS 13
abbrev n__consists_of : List Str := ["characters", "text", "character"]
theorem sc__consists_of : FnScope n__consists_of ["characters", "text"] (defScope s__consists_of) := ⟨rfl, rfl, rfl, by decide +kernel, rfl, by decide +kernel, by decide +kernel⟩
abbrev s__ascends : Stmt := topS 14
abbrev n__ascends : List Str := ["text", "one", "other"]
theorem sc__ascends : FnScope n__ascends ["text"] (defScope s__ascends) := ⟨rfl, rfl, rfl, by decide +kernel, rfl, by decide +kernel, by decide +kernel⟩
abbrev s_is_text : Stmt := topS 15
abbrev n_is_text : List Str := ["letters", "value"]
theorem sc_is_text : FnScope n_is_text ["letters", "value"] (defScope s_is_text) := ⟨rfl, rfl, rfl, by decide +kernel, rfl, by decide +kernel, by decide +kernel⟩
abbrev s_is_number : Stmt := topS 16
abbrev n_is_number : List Str := ["value"]
theorem sc_is_number : FnScope n_is_number ["value"] (defScope s_is_number) := ⟨rfl, rfl, rfl, by decide +kernel, rfl, by decide +kernel, by decide +kernel⟩
abbrev s_Store___init__ : Stmt := inClass (topS 18) 0
abbrev n_Store___init__ : List Str := ["self", "letters", "pairs", "key", "value"]
theorem sc_Store___init__ : FnScope n_Store___init__ ["self", "letters", "pairs"] (defScope s_Store___init__) := ⟨rfl, rfl, rfl, by decide +kernel, rfl, by decide +kernel, by decide +kernel⟩
abbrev s_Store___setitem__ : Stmt := inClass (topS 18) 1
abbrev n_Store___setitem__ : List Str := ["self", "at", "worth"]
theorem sc_Store___setitem__ : FnScope n_Store___setitem__ ["self", "at", "worth"] (defScope s_Store___setitem__) := ⟨rfl, rfl, rfl, by decide +kernel, rfl, by decide +kernel, by decide +kernel⟩
abbrev s_Store___getitem__ : Stmt := inClass (topS 18) 2
abbrev n_Store___getitem__ : List Str := ["self", "at"]
theorem sc_Store___getitem__ : FnScope n_Store___getitem__ ["self", "at"] (defScope s_Store___getitem__) := ⟨rfl, rfl, rfl, by decide +kernel, rfl, by decide +kernel, by decide +kernel⟩
abbrev s_Store___iter__ : Stmt := inClass (topS 18) 3
abbrev n_Store___iter__ : List Str := ["self"]
theorem sc_Store___iter__ : FnScope n_Store___iter__ ["self"] (defScope s_Store___iter__) := ⟨rfl, rfl, rfl, by decide +kernel, rfl, by decide +kernel, by decide +kernel⟩
abbrev s_Store___contains__ : Stmt := inClass (topS 18) 4
abbrev n_Store___contains__ : List Str := ["self", "x"]
theorem sc_Store___contains__ : FnScope n_Store___contains__ ["self", "x"] (defScope s_Store___contains__) := ⟨rfl, rfl, rfl, by decide +kernel, rfl, by decide +kernel, by decide +kernel⟩
abbrev s_Store___len__ : Stmt := inClass (topS 18) 5
abbrev n_Store___len__ : List Str := ["self"]
theorem sc_Store___len__ : FnScope n_Store___len__ ["self"] (defScope s_Store___len__) := ⟨rfl, rfl, rfl, by decide +kernel, rfl, by decide +kernel, by decide +kernel⟩
abbrev s_Store___eq__ : Stmt := inClass (topS 18) 6
abbrev n_Store___eq__ : List Str := ["self", "other"]
theorem sc_Store___eq__ : FnScope n_Store___eq__ ["self", "other"] (defScope s_Store___eq__) := ⟨rfl, rfl, rfl, by decide +kernel, rfl, by decide +kernel, by decide +kernel⟩
abbrev s_Store_pairs : Stmt := inClass (topS 18) 7
abbrev n_Store_pairs : List Str := ["self", "low", "high", "after", "key"]
theorem sc_Store_pairs : FnScope n_Store_pairs ["self", "low", "high", "after"] (defScope s_Store_pairs) := ⟨rfl, rfl, rfl, by decide +kernel, rfl, by decide +kernel, by decide +kernel⟩
abbrev s_Store_page : Stmt := inClass (topS 18) 8
abbrev n_Store_page : List Str := ["self", "count", "low", "high", "after"]
theorem sc_Store_page : FnScope n_Store_page ["self", "count", "low", "high", "after"] (defScope s_Store_page) := ⟨rfl, rfl, rfl, by decide +kernel, rfl, by decide +kernel, by decide +kernel⟩
abbrev s_Store_take : Stmt := inClass (topS 18) 9
abbrev n_Store_take : List Str := ["self", "low", "high", "after"]
theorem sc_Store_take : FnScope n_Store_take ["self", "low", "high", "after"] (defScope s_Store_take) := ⟨rfl, rfl, rfl, by decide +kernel, rfl, by decide +kernel, by decide +kernel⟩
abbrev s_Store_fill : Stmt := inClass (topS 18) 10
abbrev n_Store_fill : List Str := ["self", "value", "low", "high", "after", "filled", "key"]
theorem sc_Store_fill : FnScope n_Store_fill ["self", "value", "low", "high", "after"] (defScope s_Store_fill) := ⟨rfl, rfl, rfl, by decide +kernel, rfl, by decide +kernel, by decide +kernel⟩
abbrev s_Store_copied : Stmt := inClass (topS 18) 11
abbrev n_Store_copied : List Str := ["self"]
theorem sc_Store_copied : FnScope n_Store_copied ["self"] (defScope s_Store_copied) := ⟨rfl, rfl, rfl, by decide +kernel, rfl, by decide +kernel, by decide +kernel⟩
abbrev s_Store_trial : Stmt := inClass (topS 18) 12
abbrev n_Store_trial : List Str := ["self"]
theorem sc_Store_trial : FnScope n_Store_trial ["self"] (defScope s_Store_trial) := ⟨rfl, rfl, rfl, by decide +kernel, rfl, by decide +kernel, by decide +kernel⟩
abbrev s_Store_within : Stmt := inClass (topS 18) 13
abbrev n_Store_within : List Str := ["self", "work"]
theorem sc_Store_within : FnScope n_Store_within ["self", "work"] (defScope s_Store_within) := ⟨rfl, rfl, rfl, by decide +kernel, rfl, by decide +kernel, by decide +kernel⟩
abbrev s_check_value : Stmt := topS 19
abbrev n_check_value : List Str := ["value"]
theorem sc_check_value : FnScope n_check_value ["value"] (defScope s_check_value) := ⟨rfl, rfl, rfl, by decide +kernel, rfl, by decide +kernel, by decide +kernel⟩
abbrev s__keys : Stmt := topS 20
abbrev n__keys : List Str := ["store", "low", "high", "after", "key"]
theorem sc__keys : FnScope n__keys ["store", "low", "high", "after"] (defScope s__keys) := ⟨rfl, rfl, rfl, by decide +kernel, rfl, by decide +kernel, by decide +kernel⟩
abbrev s__law_deal : Stmt := topS 22
abbrev n__law_deal : List Str := ["_law_script", "_law_base", "_law_cell", "_law_cells", "_law_mixed"]
theorem sc__law_deal : FnScope n__law_deal ["_law_script", "_law_base"] (defScope s__law_deal) := ⟨rfl, rfl, rfl, by decide +kernel, rfl, by decide +kernel, by decide +kernel⟩
abbrev s__law_draw : Stmt := topS 23
abbrev n__law_draw : List Str := ["_law_deal_here", "_law_many", "_law_left"]
theorem sc__law_draw : FnScope n__law_draw ["_law_deal_here", "_law_many"] (defScope s__law_draw) := ⟨rfl, rfl, rfl, by decide +kernel, rfl, by decide +kernel, by decide +kernel⟩
abbrev s__law_pick : Stmt := topS 24
abbrev n__law_pick : List Str := ["_law_deal_here", "_law_some"]
theorem sc__law_pick : FnScope n__law_pick ["_law_deal_here", "_law_some"] (defScope s__law_pick) := ⟨rfl, rfl, rfl, by decide +kernel, rfl, by decide +kernel, by decide +kernel⟩
abbrev s__law_letters : Stmt := topS 25
abbrev n__law_letters : List Str := ["_law_deal_here", "_law_most", "_law_left", "_law_found", "_law_k", "_law_sign"]
theorem sc__law_letters : FnScope n__law_letters ["_law_deal_here", "_law_most"] (defScope s__law_letters) := ⟨rfl, rfl, rfl, by decide +kernel, rfl, by decide +kernel, by decide +kernel⟩
abbrev s__law_text : Stmt := topS 26
abbrev n__law_text : List Str := ["_law_deal_here", "_law_letters_here", "_law_most", "_law_size", "_law_form", "_law_many", "_law_word", "_law_k"]
theorem sc__law_text : FnScope n__law_text ["_law_deal_here", "_law_letters_here", "_law_most"] (defScope s__law_text) := ⟨rfl, rfl, rfl, by decide +kernel, rfl, by decide +kernel, by decide +kernel⟩
abbrev s__law_value : Stmt := topS 27
abbrev n__law_value : List Str := ["_law_deal_here", "_law_form"]
theorem sc__law_value : FnScope n__law_value ["_law_deal_here"] (defScope s__law_value) := ⟨rfl, rfl, rfl, by decide +kernel, rfl, by decide +kernel, by decide +kernel⟩
abbrev s__law_refused : Stmt := topS 28
abbrev n__law_refused : List Str := ["_law_work", "_law_found", "e"]
theorem sc__law_refused : FnScope n__law_refused ["_law_work"] (defScope s__law_refused) := ⟨rfl, rfl, rfl, by decide +kernel, rfl, by decide +kernel, by decide +kernel⟩
abbrev s__law_put : Stmt := topS 29
abbrev n__law_put : List Str := ["_law_store", "_law_key", "_law_value_here"]
theorem sc__law_put : FnScope n__law_put ["_law_store", "_law_key", "_law_value_here"] (defScope s__law_put) := ⟨rfl, rfl, rfl, by decide +kernel, rfl, by decide +kernel, by decide +kernel⟩
abbrev s__law_got : Stmt := topS 30
abbrev n__law_got : List Str := ["_law_store", "_law_key"]
theorem sc__law_got : FnScope n__law_got ["_law_store", "_law_key"] (defScope s__law_got) := ⟨rfl, rfl, rfl, by decide +kernel, rfl, by decide +kernel, by decide +kernel⟩
abbrev s__law_odd_key : Stmt := topS 31
abbrev n__law_odd_key : List Str := ["_law_deal_here", "_law_letters_here", "_law_other", "_law_some", "_law_sign"]
theorem sc__law_odd_key : FnScope n__law_odd_key ["_law_deal_here", "_law_letters_here"] (defScope s__law_odd_key) := ⟨rfl, rfl, rfl, by decide +kernel, rfl, by decide +kernel, by decide +kernel⟩
abbrev s__law_odd_value : Stmt := topS 32
abbrev n__law_odd_value : List Str := ["_law_deal_here"]
theorem sc__law_odd_value : FnScope n__law_odd_value ["_law_deal_here"] (defScope s__law_odd_value) := ⟨rfl, rfl, rfl, by decide +kernel, rfl, by decide +kernel, by decide +kernel⟩
abbrev s__law_pairs_right : Stmt := topS 33
abbrev n__law_pairs_right : List Str := ["_law_deal_here", "_law_letters_here", "_law_pairs", "_law_at", "_law_form", "_law_key", "_law_value_here", "_law_due", "_law_more", "_law_odd", "_law_some", "_law_told"]
theorem sc__law_pairs_right : FnScope n__law_pairs_right ["_law_deal_here", "_law_letters_here", "_law_pairs"] (defScope s__law_pairs_right) := ⟨rfl, rfl, rfl, by decide +kernel, rfl, by decide +kernel, by decide +kernel⟩
abbrev s_law : Stmt := topS 34
abbrev n_law : List Str := ["_law_script", "_law_deal_here", "_law_turn", "_law_letters_here", "_law_pairs", "_law_kept", "_law_found", "_law_text_here", "_law_lost", "_law_bad", "_law_key", "_law_odd", "_law_store", "_law_value_here", "_law_again"]
theorem sc_law : FnScope n_law ["_law_script"] (defScope s_law) := ⟨rfl, rfl, rfl, by decide +kernel, rfl, by decide +kernel, by decide +kernel⟩
abbrev s_NoText : Stmt := inClass (topS 4) 0
theorem sc_NoText : FnScope ["self", "value"] ["self", "value"] (defScope s_NoText) := ⟨rfl, rfl, rfl, by decide +kernel, rfl, by decide +kernel, by decide +kernel⟩
abbrev s_NoValue : Stmt := inClass (topS 5) 0
theorem sc_NoValue : FnScope ["self", "value"] ["self", "value"] (defScope s_NoValue) := ⟨rfl, rfl, rfl, by decide +kernel, rfl, by decide +kernel, by decide +kernel⟩
abbrev s_NoKey : Stmt := inClass (topS 6) 0
theorem sc_NoKey : FnScope ["self", "key"] ["self", "key"] (defScope s_NoKey) := ⟨rfl, rfl, rfl, by decide +kernel, rfl, by decide +kernel, by decide +kernel⟩
/-- what the module's names hold -/
structure Txt (K : PySem.W.Frag) (mg : Str → Option Value) : Prop where
  a_check_letters : At K mg "check_letters" s_check_letters ["letters"]
  a__are_letters : At K mg "_are_letters" s__are_letters ["value"]
  a__consists_of : At K mg "_consists_of" s__consists_of ["characters", "text"]
  a__ascends : At K mg "_ascends" s__ascends ["text"]
  a_is_text : At K mg "is_text" s_is_text ["letters", "value"]
  a_is_number : At K mg "is_number" s_is_number ["value"]
  a_check_value : At K mg "check_value" s_check_value ["value"]
  a__keys : At K mg "_keys" s__keys ["store", "low", "high", "after"]
  a__law_deal : At K mg "_law_deal" s__law_deal ["_law_script", "_law_base"]
  a__law_draw : At K mg "_law_draw" s__law_draw ["_law_deal_here", "_law_many"]
  a__law_pick : At K mg "_law_pick" s__law_pick ["_law_deal_here", "_law_some"]
  a__law_letters : At K mg "_law_letters" s__law_letters ["_law_deal_here", "_law_most"]
  a__law_text : At K mg "_law_text" s__law_text ["_law_deal_here", "_law_letters_here", "_law_most"]
  a__law_value : At K mg "_law_value" s__law_value ["_law_deal_here"]
  a__law_refused : At K mg "_law_refused" s__law_refused ["_law_work"]
  a__law_put : At K mg "_law_put" s__law_put ["_law_store", "_law_key", "_law_value_here"]
  a__law_got : At K mg "_law_got" s__law_got ["_law_store", "_law_key"]
  a__law_odd_key : At K mg "_law_odd_key" s__law_odd_key ["_law_deal_here", "_law_letters_here"]
  a__law_odd_value : At K mg "_law_odd_value" s__law_odd_value ["_law_deal_here"]
  g_Store : mg "Store" = some (.ref (ca mg "Store"))
  k_Store : Cls K (ca mg "Store")
  q_Store : PySem.W.noSeq K (ca mg "Store") = true
  i_Store : InsK K (ca mg "Store")
  ne_Store : NeK K (ca mg "Store")
  n_Store_letters : NoAttr K (ca mg "Store") "letters"
  n_Store_table : NoAttr K (ca mg "Store") "table"
  d_Store___init__ : AtI K (ca mg "Store") "__init__" "Store.__init__" s_Store___init__
  a_Store___setitem__ : AtM K (ca mg "Store") "__setitem__" "Store.__setitem__" s_Store___setitem__ ["self", "at", "worth"]
  a_Store___getitem__ : AtM K (ca mg "Store") "__getitem__" "Store.__getitem__" s_Store___getitem__ ["self", "at"]
  a_Store___contains__ : AtM K (ca mg "Store") "__contains__" "Store.__contains__" s_Store___contains__ ["self", "x"]
  d_Store_pairs : AtD K (ca mg "Store") "pairs" "Store.pairs" s_Store_pairs [V.str (tx []), V.non] [("after", V.non)]
  d_Store_fill : AtD K (ca mg "Store") "fill" "Store.fill" s_Store_fill [] [("after", V.non)]
  e_UnderError : Err0 K mg "UnderError" (ca mg "UnderError")
  e_InvalidLetters : Err0 K mg "InvalidLetters" (ca mg "InvalidLetters")
  e_NoText : ErrI K mg "NoText" "NoText.__init__" "value" s_NoText (ca mg "NoText")
  e_NoValue : ErrI K mg "NoValue" "NoValue.__init__" "value" s_NoValue (ca mg "NoValue")
  e_NoKey : ErrI K mg "NoKey" "NoKey.__init__" "key" s_NoKey (ca mg "NoKey")
  m_KeyError : mg "KeyError" = none
  m_TypeError : mg "TypeError" = none
  m_ValueError : mg "ValueError" = none
  m_abs : mg "abs" = none
  m_all : mg "all" = none
  m_bool : mg "bool" = none
  m_int : mg "int" = none
  m_isinstance : mg "isinstance" = none
  m_len : mg "len" = none
  m_list : mg "list" = none
  m_range : mg "range" = none
  m_repr : mg "repr" = none
  m_sorted : mg "sorted" = none
  m_str : mg "str" = none
  m_tuple : mg "tuple" = none
  m_zip : mg "zip" = none
  c_CHARACTERS : ∃ t, mg "CHARACTERS" = some (.str "-./0123456789_abcdefghijklmnopqrstuvwxyz" t)
  c_FEWEST_LETTERS : ∃ t, mg "FEWEST_LETTERS" = some (.int 2 t)
  c_MOST_LETTERS : ∃ t, mg "MOST_LETTERS" = some (.int 5 t)
structure Xt (K : PySem.W.Frag) (mg : Str → Option Value) : Prop where
  x_NoText : PySem.W.exmOne K (.ref (ca mg "NoText")) (.ref (ca mg "UnderError")) = some true
  x_NoValue : PySem.W.exmOne K (.ref (ca mg "NoValue")) (.ref (ca mg "UnderError")) = some true
  x_InvalidLetters : PySem.W.exmOne K (.ref (ca mg "InvalidLetters")) (.ref (ca mg "UnderError")) = some true
  x_NoKey : PySem.W.exmOne K (.ref (ca mg "NoKey")) (.ref (ca mg "UnderError")) = some false
  k_NoText_NoText : PySem.W.kitOne K (.ref (ca mg "NoText")) (.ref (ca mg "NoText")) = some true
  k_NoText_NoValue : PySem.W.kitOne K (.ref (ca mg "NoText")) (.ref (ca mg "NoValue")) = some false
  k_NoText_InvalidLetters : PySem.W.kitOne K (.ref (ca mg "NoText")) (.ref (ca mg "InvalidLetters")) = some false
  k_NoValue_NoText : PySem.W.kitOne K (.ref (ca mg "NoValue")) (.ref (ca mg "NoText")) = some false
  k_NoValue_NoValue : PySem.W.kitOne K (.ref (ca mg "NoValue")) (.ref (ca mg "NoValue")) = some true
  k_NoValue_InvalidLetters : PySem.W.kitOne K (.ref (ca mg "NoValue")) (.ref (ca mg "InvalidLetters")) = some false
  k_InvalidLetters_NoText : PySem.W.kitOne K (.ref (ca mg "InvalidLetters")) (.ref (ca mg "NoText")) = some false
  k_InvalidLetters_NoValue : PySem.W.kitOne K (.ref (ca mg "InvalidLetters")) (.ref (ca mg "NoValue")) = some false
  k_InvalidLetters_InvalidLetters : PySem.W.kitOne K (.ref (ca mg "InvalidLetters")) (.ref (ca mg "InvalidLetters")) = some true
def alphabet : List Nat := [45, 46, 47, 48, 49, 50, 51, 52, 53, 54, 55, 56, 57, 95, 97, 98, 99, 100, 101, 102, 103, 104, 105, 106, 107, 108, 109, 110, 111, 112, 113, 114, 115, 116, 117, 118, 119, 120, 121, 122]
section
variable {P : Program} {w : World} {K : PySem.W.Frag} {mg : Str → Option Value} {base : Heap}
theorem sz_of' {n : Nat} (h : n ≤ 1000) : n ≤ sizeLine := Nat.le_of_lt (small1000 h)
def consB (cs u : List Nat) : Bool := u.all fun c => decide (c ∈ cs)
def spCons : Sp := fun vs H Q _ => ∃ cs u : List Nat, vs = [.str (tx cs), .str (tx u)] ∧ u.length ≤ 1000 ∧ ∀ H', Same H H' → Q (.bl (consB cs u)) H'
theorem cl_cons (T : Txt K mg) : Cl P w K mg base "_consists_of" ["characters", "text"] 1 spCons := cl_of T.a__consists_of fun f fd F => by
  refine F.ok sc__consists_of (fun vs H Q E h => ?_) (fun cdv A outer s H vs Q E hr h => ?_)
  · obtain ⟨cs, u, rfl, _⟩ := h
    rfl
  · obtain ⟨cs, u, rfl, hl, q⟩ := h
    refine ⟨_, (pss_one (ps_ret (pe_callB (cr_all rfl) (by rfl) T.m_all (by decide +kernel) (pa_cons (pe_lc (own := [("character", 2)]) (g := gName 2) (tt := tYes) (by rfl) sc__consists_of.nd (pi_str (pv 1)) (blkOk_by (own := [("character", 2)]) (N := n__consists_of) (sc := defScope s__consists_of) (by decide +kernel)) (fun _ _ _ _ _ => (pg_name (i := 2) sc__consists_of.nd rfl (Or.inl rfl))) (fun _ _ _ _ _ => pts_nil) (fun _ _ _ _ _ => (pe_cmpR op_inX (pv 2) (pv 0) (by rfl)))) pa_nil)))), ?_⟩
    walk_at "rds"
    refine fun e ne => lc_text (l := u) (fun i H' => Same H H' ∧ H' e = some (.lst (((u.take i).map fun c => decide (c ∈ cs)).map V.bl))) ⟨same_upd ne, upd_same⟩ ?_ ?_
    · rintro i c H' hc ⟨sH, he⟩
      have hi : i < u.length := (List.getElem?_eq_some_iff.mp hc).1
      walk_at "rds"
      refine ⟨rfl, ?_⟩
      walk_at "rds"
      refine rd_ite (fun _ => ?_) (fun h => by cases h)
      walk_at "rds"
      refine ⟨_, he, by rw [List.length_map, List.length_map, List.length_take]; exact small1000 (by omega), same_mut sH ne, ?_⟩
      rw [upd_same, take_snoc _ hc, List.map_append]
      rfl
    · rintro H' ⟨sH, he⟩
      rw [List.take_length] at he
      walk_at "rds"
      refine rd_all (SqL.of he) ?_
      have e1 : (u.map fun c => decide (c ∈ cs)).all id = consB cs u := by unfold consB; rw [List.all_map]; rfl
      rw [e1]
      exact q _ sH
def ascB (u : List Nat) : Bool := (u.zip (u.drop 1)).all fun p => decide ([p.1] < [p.2])
def spAsc : Sp := fun vs H Q _ => ∃ u : List Nat, vs = [.str (tx u)] ∧ u.length ≤ 1000 ∧ ∀ H', Same H H' → Q (.bl (ascB u)) H'
theorem cl_asc (T : Txt K mg) : Cl P w K mg base "_ascends" ["text"] 1 spAsc := cl_of T.a__ascends fun f fd F => by
  refine F.ok sc__ascends (fun vs H Q E h => ?_) (fun cdv A outer s H vs Q E hr h => ?_)
  · obtain ⟨u, rfl, _⟩ := h
    rfl
  · obtain ⟨u, rfl, hl, q⟩ := h
    refine ⟨_, (pss_one (ps_ret (pe_callB (cr_all rfl) (by rfl) T.m_all (by decide +kernel) (pa_cons (pe_lc (own := [("one", 1), ("other", 2)]) (g := gTup K 2 (gCons (gName 1) (gCons (gName 2) gNil))) (tt := tYes) (by rfl) sc__ascends.nd (pi_zipS (by rfl) T.m_zip (pa_cons (pv 0) (pa_cons (pe_slice sl_strX (pv 0) (po_some pe_int) po_none) pa_nil))) (blkOk_by (own := [("one", 1), ("other", 2)]) (N := n__ascends) (sc := defScope s__ascends) (by decide +kernel)) (fun _ _ _ _ _ => by exact (pg_tup rfl (pgs_cons (pg_name (i := 1) sc__ascends.nd rfl (Or.inl rfl)) (pgs_cons (pg_name (i := 2) sc__ascends.nd rfl (Or.inl rfl)) pgs_nil)))) (fun _ _ _ _ _ => pts_nil) (fun _ _ _ _ _ => (pe_cmpR op_ltX (pv 1) (pv 2) (nomark _)))) pa_nil)))), ?_⟩
    walk_at "rds"
    refine rd_slX (sz_of' hl) ?_
    have e0 : cutL u (some 1) none = u.drop 1 := by
      show cutL u (some ((1 : Nat) : Int)) none = _
      unfold cutL
      rw [HT.sIx_none, HT.sIx_nat]
      rcases u with _ | ⟨c, u⟩
      · rfl
      · have e3 : min 1 (c :: u).length = 1 := by simp
        rw [e3]
        simp
    rw [e0]
    walk_at "rds"
    refine fun e ne => lc_zip (l := u) (m := u.drop 1) (fun i H' => Same H H' ∧ H' e = some (.lst ((((u.zip (u.drop 1)).take i).map fun p => decide ([p.1] < [p.2])).map V.bl))) ⟨same_upd ne, upd_same⟩ ?_ ?_
    · rintro i c d T' H' hc hd ⟨sH, he⟩ hT
      have hi : i < u.length := (List.getElem?_eq_some_iff.mp hc).1
      have hz : (u.zip (u.drop 1))[i]? = some (c, d) := List.getElem?_zip_eq_some.mpr ⟨hc, hd⟩
      have hne : T' ≠ e := fun z => by rw [z, he] at hT; cases hT
      refine rd_gtup (SqT.of upd_same) rfl ?_
      walk_at "rds"
      refine ⟨rfl, ?_⟩
      walk_at "rds"
      refine rd_ite (fun _ => ?_) (fun h => by cases h)
      walk_at "rds"
      refine ⟨_, by rw [upd_ne hne.symm]; exact he, ?_, ?_, ?_⟩
      · rw [List.length_map, List.length_map, List.length_take, List.length_zip]
        exact small1000 (by omega)
      · exact same_mut (fun b o hb => same_upd hT b o (sH b o hb)) ne
      · rw [upd_same, take_snoc _ hz, List.map_append]
        first | rfl | (rw [List.map_append]; rfl)
    · rintro H' ⟨sH, he⟩
      have hlen : (u.zip (u.drop 1)).length = min u.length (u.drop 1).length := List.length_zip
      rw [← hlen, List.take_length] at he
      walk_at "rds"
      refine rd_all (SqL.of he) ?_
      have e1 : ((u.zip (u.drop 1)).map fun p => decide ([p.1] < [p.2])).all id = ascB u := by unfold ascB; rw [List.all_map]; rfl
      rw [e1]
      exact q _ sH
/-- no text -/
def NotStr (K : PySem.W.Frag) (H : Hp) (x : V) : Prop := (∃ t, TyX K H x t ∧ PySem.W.kitOne K t (.type "str") = some false) ∧ ∀ z, x ≠ .str z
def TxtOr (K : PySem.W.Frag) (H : Hp) (x : V) : Prop := (∃ u, x = .str (tx u) ∧ u.length ≤ 1000) ∨ NotStr K H x
def areB (u : List Nat) : Bool := decide (2 ≤ u.length) && (decide (u.length ≤ 5) && (consB alphabet u && ascB u))
def areV : V → Bool
  | .str z => areB z.cps.toList
  | _ => false
theorem areV_tx (u : List Nat) : areV (.str (tx u)) = areB u := rfl
theorem areV_not {x : V} (h : ∀ z, x ≠ .str z) : areV x = false := by
  cases x with
  | str z => exact (h z rfl).elim
  | _ => rfl
def spAre (K : PySem.W.Frag) : Sp := fun vs H Q _ => ∃ x, vs = [x] ∧ TxtOr K H x ∧ ∀ H', Same H H' → Q (.bl (areV x)) H'
theorem same_refl (H : Hp) : Same H H := fun _ _ h => h
theorem same_trans {H H1 H2 : Hp} (a : Same H H1) (b : Same H1 H2) : Same H H2 := fun c o h => b c o (a c o h)
theorem cl_are (T : Txt K mg) : Cl P w K mg base "_are_letters" ["value"] 2 (spAre K) := cl_of T.a__are_letters fun f fd F => by
  have C__consists_of := cl_cons (P := P) (w := w) (base := base) T
  have C__ascends := cl_asc (P := P) (w := w) (base := base) T
  refine F.ok sc__are_letters (fun vs H Q E h => ?_) (fun cdv A outer s H vs Q E hr h => ?_)
  · obtain ⟨x, rfl, _⟩ := h
    rfl
  · obtain ⟨x, rfl, hx, q⟩ := h
    refine ⟨_, (pss_cons (ps_if (pt_not (pt_val (pe_callB call_isi (by rfl) T.m_isinstance (by decide +kernel) (pa_cons (pv 0) (pa_cons (pe_bltn (v := .ty "str") (by rfl) T.m_str (by decide +kernel) rfl) pa_nil)))))
      (pss_one (ps_ret pe_bl))
      pss_nil)
      (pss_cons (ps_if (pt_not (pt_chain op_le op_le (pe_gint T.c_FEWEST_LETTERS (by rfl)) (pe_callB call_lenX (by rfl) T.m_len (by decide +kernel) (pa_cons (pv 0) pa_nil)) (pe_gint T.c_MOST_LETTERS (by rfl))))
      (pss_one (ps_ret pe_bl))
      pss_nil)
      (pss_one (ps_ret (pe_and (pe_cl C__consists_of (hr.mono (by decide)) (by rfl) (pa_cons (pe_gstr T.c_CHARACTERS [45, 46, 47, 48, 49, 50, 51, 52, 53, 54, 55, 56, 57, 95, 97, 98, 99, 100, 101, 102, 103, 104, 105, 106, 107, 108, 109, 110, 111, 112, 113, 114, 115, 116, 117, 118, 119, 120, 121, 122] (by decide +kernel) (by rfl)) (pa_cons (pv 0) pa_nil))) (pe_one (pe_cl C__ascends (hr.mono (by decide)) (by rfl) (pa_cons (pv 0) pa_nil)))))))), ?_⟩
    walk_at "rds"
    rcases hx with ⟨u, rfl, hl⟩ | ⟨⟨t, ty, k⟩, hn⟩
    · rw [areV_tx] at q
      unfold areB at q
      refine rd_isi (b := true) (.base (.str _)) (kit_ty (by decide +kernel)) ?_
      walk_at "rds"
      refine rd_ite (fun h => by cases h) (fun _ => ?_)
      walk_at "rds"
      refine rd_lenX (sz_of' hl) ?_
      have e2 : decide (2 ≤ (u.length : Int)) = decide (2 ≤ u.length) := by
        rw [decide_eq_decide]
        omega
      have e5 : decide ((u.length : Int) ≤ 5) = decide (u.length ≤ 5) := by
        rw [decide_eq_decide]
        omega
      walk_at "rds"
      rw [e2]
      refine rd_ite (fun h2 => ?_) (fun h2 => ?_)
      · rw [h2, Bool.true_and] at q
        walk_at "rds"
        rw [e5]
        refine rd_ite (fun h5 => ?_) (fun h5 => ?_)
        · have h5' : decide (u.length ≤ 5) = false := by simpa using h5
          rw [h5', Bool.false_and] at q
          walk_at "rds"
          exact q _ (same_refl _)
        · have h5' : decide (u.length ≤ 5) = true := by simpa using h5
          rw [h5', Bool.true_and] at q
          walk_at "rds"
          refine ⟨alphabet, u, rfl, hl, fun H1 s1 => ?_⟩
          walk_at "rds"
          refine rd_ite (fun h => ?_) (fun h => ?_)
          · rw [h, Bool.true_and] at q
            walk_at "rds"
            exact ⟨u, rfl, hl, fun H2 s2 => q _ (same_trans s1 s2)⟩
          · rw [h, Bool.false_and] at q
            exact q _ s1
      · rw [h2, Bool.false_and] at q
        walk_at "rds"
        refine rd_ite (fun _ => ?_) (fun h => by cases h)
        walk_at "rds"
        exact q _ (same_refl _)
    · rw [areV_not hn] at q
      refine rd_isi ty k ?_
      walk_at "rds"
      refine rd_ite (fun _ => ?_) (fun h => by cases h)
      walk_at "rds"
      exact q _ (same_refl _)
def isTxtB (ls : List Nat) : V → Bool
  | .str z => consB ls z.cps.toList
  | _ => false
theorem isTxt_not {ls : List Nat} {x : V} (h : ∀ z, x ≠ .str z) : isTxtB ls x = false := by
  cases x with
  | str z => exact (h z rfl).elim
  | _ => rfl
def spIsTxt (K : PySem.W.Frag) : Sp := fun vs H Q _ => ∃ (ls : List Nat) (x : V), vs = [.str (tx ls), x] ∧ TxtOr K H x ∧ ∀ H', Same H H' → Q (.bl (isTxtB ls x)) H'
theorem cl_is_text (T : Txt K mg) : Cl P w K mg base "is_text" ["letters", "value"] 2 (spIsTxt K) := cl_of T.a_is_text fun f fd F => by
  have C__consists_of := cl_cons (P := P) (w := w) (base := base) T
  refine F.ok sc_is_text (fun vs H Q E h => ?_) (fun cdv A outer s H vs Q E hr h => ?_)
  · obtain ⟨ls, x, rfl, _⟩ := h
    rfl
  · obtain ⟨ls, x, rfl, hx, q⟩ := h
    refine ⟨_, (pss_one (ps_ret (pe_and (pe_callB call_isi (by rfl) T.m_isinstance (by decide +kernel) (pa_cons (pv 1) (pa_cons (pe_bltn (v := .ty "str") (by rfl) T.m_str (by decide +kernel) rfl) pa_nil))) (pe_one (pe_cl C__consists_of (hr.mono (by decide)) (by rfl) (pa_cons (pv 0) (pa_cons (pv 1) pa_nil))))))), ?_⟩
    walk_at "rds"
    rcases hx with ⟨u, rfl, hl⟩ | ⟨⟨t, ty, k⟩, hn⟩
    · refine rd_isi (b := true) (.base (.str _)) (kit_ty (by decide +kernel)) ?_
      walk_at "rds"
      refine rd_ite (fun _ => ?_) (fun h => by cases h)
      walk_at "rds"
      exact ⟨ls, u, rfl, hl, q⟩
    · rw [isTxt_not hn] at q
      refine rd_isi ty k ?_
      walk_at "rds"
      refine rd_ite (fun h => by cases h) (fun _ => ?_)
      exact q _ (same_refl _)
end

section
variable {P : Program} {w : World} {K : PySem.W.Frag} {mg : Str → Option Value} {base : Heap}
abbrev SC (mg : Str → Option Value) : Addr := ca mg "Store"
abbrev CT (mg : Str → Option Value) : Addr := ca mg "NoText"
abbrev CV (mg : Str → Option Value) : Addr := ca mg "NoValue"
abbrev CL (mg : Str → Option Value) : Addr := ca mg "InvalidLetters"
abbrev CK (mg : Str → Option Value) : Addr := ca mg "NoKey"
theorem mk_NoText (T : Txt K mg) : Mk P w K mg base "NoText" "value" (ca mg "NoText") := Un.mk_of T.e_NoText fun fI fd F => by
  refine F.ok sc_NoText (fun vs H Q E h => ?_) (fun cdv A outer s H vs Q E hr h => ?_)
  · obtain ⟨a, v, C, rfl, _⟩ := h
    rfl
  · obtain ⟨a, v, C, rfl, T', hno, ea, q⟩ := h
    refine ⟨_, (pss_one (ps_oxt (pv 0) (pv 1))), ?_⟩
    exact ⟨v, rfl, .ref a, rfl, a, C, rfl, T', hno, ea, fun dx h1 h2 => q dx h1 h2⟩
theorem mk_NoValue (T : Txt K mg) : Mk P w K mg base "NoValue" "value" (ca mg "NoValue") := Un.mk_of T.e_NoValue fun fI fd F => by
  refine F.ok sc_NoValue (fun vs H Q E h => ?_) (fun cdv A outer s H vs Q E hr h => ?_)
  · obtain ⟨a, v, C, rfl, _⟩ := h
    rfl
  · obtain ⟨a, v, C, rfl, T', hno, ea, q⟩ := h
    refine ⟨_, (pss_one (ps_oxt (pv 0) (pv 1))), ?_⟩
    exact ⟨v, rfl, .ref a, rfl, a, C, rfl, T', hno, ea, fun dx h1 h2 => q dx h1 h2⟩
theorem mk_NoKey (T : Txt K mg) : Mk P w K mg base "NoKey" "key" (ca mg "NoKey") := Un.mk_of T.e_NoKey fun fI fd F => by
  refine F.ok sc_NoKey (fun vs H Q E h => ?_) (fun cdv A outer s H vs Q E hr h => ?_)
  · obtain ⟨a, v, C, rfl, _⟩ := h
    rfl
  · obtain ⟨a, v, C, rfl, T', hno, ea, q⟩ := h
    refine ⟨_, (pss_one (ps_oxt (pv 0) (pv 1))), ?_⟩
    exact ⟨v, rfl, .ref a, rfl, a, C, rfl, T', hno, ea, fun dx h1 h2 => q dx h1 h2⟩
def SF (ls : List Nat) (d : Addr) : List (Str × V) := [("letters", .str (tx ls)), ("table", .ref d)]
def Ov (ls k : List Nat) : Prop := (∀ c ∈ k, c ∈ ls) ∧ k.length ≤ 1000
/-- a store at a: its table at d -/
structure St (C : Addr) (H : Hp) (a d : Addr) (ls : List Nat) (m : Tab) : Prop where
  o : ∃ dx, H a = some (.ins C dx (SF ls d))
  t : H d = some (.dK (encT m))
def Keep1 (d : Addr) (H H' : Hp) : Prop := ∀ b o, H b = some o → b ≠ d → H' b = some o
theorem isTxt_ov {ls k : List Nat} (h : Ov ls k) : isTxtB ls (.str (tx k)) = true := by
  show consB ls k = true
  unfold consB
  rw [List.all_eq_true]
  exact fun c hc => decide_eq_true (h.1 c hc)
/-- any value that a test of numbers may meet -/
def NumOr (K : PySem.W.Frag) (H : Hp) (x : V) : Prop := (∃ v : Int, x = .int v) ∨ (∃ b, x = .bl b) ∨ ((∃ t, TyX K H x (.type t) ∧ kitB t "int" = some false) ∧ ∀ v : Int, x ≠ .int v)
def isNum : V → Bool
  | .int _ => true
  | _ => false
def okV : V → Bool
  | .int v => decide (0 ≤ v)
  | _ => false
theorem isNum_not {x : V} (h : ∀ v : Int, x ≠ .int v) : isNum x = false := by
  cases x with
  | int v => exact (h v rfl).elim
  | _ => rfl
theorem okV_not {x : V} (h : ∀ v : Int, x ≠ .int v) : okV x = false := by
  cases x with
  | int v => exact (h v rfl).elim
  | _ => rfl
theorem NumOr.ext {H H' : Hp} {x : V} (h : NumOr K H x) (s : ExtN H H') : NumOr K H' x := by
  rcases h with h | h | ⟨⟨t, ty, k⟩, hn⟩
  · exact .inl h
  · exact .inr (.inl h)
  · exact .inr (.inr ⟨⟨t, tyX_ext s ty, k⟩, hn⟩)
theorem TxtOr.ext {H H' : Hp} {x : V} (h : TxtOr K H x) (s : ExtN H H') : TxtOr K H' x := by
  rcases h with h | ⟨⟨t, ty, k⟩, hn⟩
  · exact .inl h
  · exact .inr ⟨⟨t, tyX_ext s ty, k⟩, hn⟩
def spNum (K : PySem.W.Frag) : Sp := fun vs H Q _ => ∃ x, vs = [x] ∧ NumOr K H x ∧ ∀ H', Same H H' → Q (.bl (isNum x)) H'
theorem cl_num (T : Txt K mg) : Cl P w K mg base "is_number" ["value"] 1 (spNum K) := cl_of T.a_is_number fun f fd F => by
  refine F.ok sc_is_number (fun vs H Q E h => ?_) (fun cdv A outer s H vs Q E hr h => ?_)
  · obtain ⟨x, rfl, _⟩ := h
    rfl
  · obtain ⟨x, rfl, hx, q⟩ := h
    refine ⟨_, (pss_one (ps_ret (pe_and (pe_callB call_isi (by rfl) T.m_isinstance (by decide +kernel) (pa_cons (pv 0) (pa_cons (pe_bltn (v := .ty "int") (by rfl) T.m_int (by decide +kernel) rfl) pa_nil))) (pe_one (pe_not (pe_callB call_isi (by rfl) T.m_isinstance (by decide +kernel) (pa_cons (pv 0) (pa_cons (pe_bltn (v := .ty "bool") (by rfl) T.m_bool (by decide +kernel) rfl) pa_nil)))))))), ?_⟩
    walk_at "rds"
    rcases hx with ⟨v, rfl⟩ | ⟨b, rfl⟩ | ⟨⟨t, ty, k⟩, hn⟩
    · refine rd_isB (b := true) (.base (.int v)) (kit_ty (by decide +kernel)) ?_
      walk_at "rds"
      refine rd_ite (fun _ => ?_) (fun h => by cases h)
      walk_at "rds"
      refine rd_isB (b := false) (.base (.int v)) (kit_ty (by decide +kernel)) ?_
      walk_at "rds"
      exact q _ (same_refl _)
    · refine rd_isB (b := true) (.base (.bl b)) (kit_ty (by decide +kernel)) ?_
      walk_at "rds"
      refine rd_ite (fun _ => ?_) (fun h => by cases h)
      walk_at "rds"
      refine rd_isB (b := true) (.base (.bl b)) (kit_ty (by decide +kernel)) ?_
      walk_at "rds"
      exact q _ (same_refl _)
    · rw [isNum_not hn] at q
      refine rd_isB (b := false) ty (kit_ty k) ?_
      walk_at "rds"
      refine rd_ite (fun h => by cases h) (fun _ => ?_)
      exact q _ (same_refl _)
def Err1 (C : Addr) (n : Str) (x : V) (H : Hp) (E : XK) : Prop := ∀ d H', Same H H' → H' d = some (.xd [(n, x)]) → E (.ref C) (some d) H'
def spChk (K : PySem.W.Frag) (C : Addr) : Sp := fun vs H Q E => ∃ x, vs = [x] ∧ NumOr K H x ∧ (okV x = true → ∀ H', Same H H' → Q .non H') ∧ (okV x = false → Err1 C "value" x H E)
theorem clx_chk (T : Txt K mg) : ClX P w K mg base "check_value" ["value"] 3 (spChk K (CV mg)) := clX_of T.a_check_value fun f fd F => by
  have C_is_number := cl_num (P := P) (w := w) (base := base) T
  have E_NoValue := mk_NoValue (P := P) (w := w) (base := base) T
  refine F.okX sc_check_value (fun vs H Q E h => ?_) (fun cdv A outer s H vs Q E hr h => ?_)
  · obtain ⟨x, rfl, _⟩ := h
    rfl
  · obtain ⟨x, rfl, hx, q1, q2⟩ := h
    refine ⟨_, (pss_one (ps_if (PW.pt (pw_or (pt_not (pt_val (pe_cl C_is_number (hr.mono (by decide)) (by rfl) (pa_cons (pv 0) pa_nil)))) (pw_or1 (pt_cmpR op_lt (pv 0) pe_int (nomark _)))))
      (pss_one (ps_raise rfl (takes_of rfl rfl rfl rfl) (pmk_G E_NoValue hr (by decide) (by rfl) (pv 0))))
      pss_nil)), ?_⟩
    walk_at "rds"
    refine ⟨x, rfl, hx, fun H1 s1 => ?_⟩
    walk_at "rds"
    have die : okV x = false → tMkR (ca mg (Str.ofString "NoValue")) (Str.ofString "value") (tVar 0) (L2.start n_check_value [x]) H1 fun cls d H' => E cls d H' := fun hb => by
      walk_at "rds"
      exact fun d hd => q2 hb d _ (same_trans s1 (same_upd hd)) upd_same
    rcases hx with ⟨v, rfl⟩ | ⟨b, rfl⟩ | ⟨_, hn⟩
    · refine rd_ite (fun h => by cases h) (fun _ => ?_)
      walk_at "rds"
      refine rd_ite (fun h => ?_) (fun h => ?_)
      · exact die (decide_eq_false (by have := of_decide_eq_true h; omega))
      · walk_at "rds"
        exact q1 (decide_eq_true (by have := of_decide_eq_false h; omega)) _ s1
    · refine rd_ite (fun _ => ?_) (fun h => by cases h)
      rw [if_pos rfl]
      exact die rfl
    · rw [isNum_not hn]
      refine rd_ite (fun _ => ?_) (fun h => by cases h)
      rw [if_pos rfl]
      exact die (okV_not hn)
def spCheck (K : PySem.W.Frag) (C : Addr) : Sp := fun vs H Q E => ∃ x, vs = [x] ∧ TxtOr K H x ∧ (areV x = true → ∀ H', Same H H' → Q (.bl true) H') ∧ (areV x = false → ∀ H', Same H H' → E (.ref C) none H')
theorem clx_check (T : Txt K mg) : ClX P w K mg base "check_letters" ["letters"] 3 (spCheck K (CL mg)) := clX_of T.a_check_letters fun f fd F => by
  have C__are_letters := cl_are (P := P) (w := w) (base := base) T
  refine F.okX sc_check_letters (fun vs H Q E h => ?_) (fun cdv A outer s H vs Q E hr h => ?_)
  · obtain ⟨x, rfl, _⟩ := h
    rfl
  · obtain ⟨x, rfl, hx, q1, q2⟩ := h
    refine ⟨_, (pss_cons (ps_if (pt_not (pt_val (pe_cl C__are_letters (hr.mono (by decide)) (by rfl) (pa_cons (pv 0) pa_nil))))
      (pss_one (ps_raise rfl (takes_of rfl rfl rfl rfl) (pmk_err0 T.e_InvalidLetters (by rfl))))
      pss_nil)
      (pss_one (ps_ret pe_bl))), ?_⟩
    walk_at "rds"
    refine ⟨x, rfl, hx, fun H1 s1 => ?_⟩
    walk_at "rds"
    refine rd_ite (fun h => ?_) (fun h => ?_)
    · exact q2 (by simpa using h) _ s1
    · walk_at "rds"
      exact q1 (by simpa using h) _ s1
def spSet (K : PySem.W.Frag) (C CT CV : Addr) : Sp := fun vs H Q E => ∃ (a d : Addr) (ls : List Nat) (m : Tab) (x y : V), vs = [.ref a, x, y] ∧ St C H a d ls m ∧ TxtOr K H x ∧ NumOr K H y ∧ m.length ≤ 1000 ∧
  (isTxtB ls x = false → Err1 CT "value" x H E) ∧ (isTxtB ls x = true → okV y = false → Err1 CV "value" y H E) ∧
  ∀ (k : List Nat) (v : Int), x = .str (tx k) → y = .int v → isTxtB ls x = true → 0 ≤ v → ∀ H', Keep1 d H H' → H' d = some (.dK (encT (putT m k v))) → Q .non H'
theorem met_set (T : Txt K mg) : MetG P w K mg base (L2.CX P w) (SC mg) "__setitem__" ["self", "at", "worth"] 4 (spSet K (SC mg) (CT mg) (CV mg)) := metG_of T.k_Store T.a_Store___setitem__ fun f fd F => by
  have C_is_text := cl_is_text (P := P) (w := w) (base := base) T
  have C_check_value := clx_chk (P := P) (w := w) (base := base) T
  have E_NoText := mk_NoText (P := P) (w := w) (base := base) T
  refine F.okX sc_Store___setitem__ (fun vs H Q E h => ?_) (fun cdv A outer s H vs Q E hr h => ?_)
  · obtain ⟨a, d, ls, m, x, y, rfl, _⟩ := h
    rfl
  · obtain ⟨a, d, ls, m, x, y, rfl, hS, hx, hy, hm, q1, q2, q3⟩ := h
    refine ⟨_, (pss_cons (ps_if (pt_not (pt_val (pe_cl C_is_text (hr.mono (by decide)) (by rfl) (pa_cons (pe_fldK (K := K) (by rfl) (pv 0) (by rfl)) (pa_cons (pv 1) pa_nil)))))
      (pss_one (ps_raise rfl (takes_of rfl rfl rfl rfl) (pmk_G E_NoText hr (by decide) (by rfl) (pv 1))))
      pss_nil)
      (pss_cons (ps_expr (pe_clX C_check_value (hr.mono (by decide)) (by rfl) (takes_of rfl rfl rfl rfl) (pa_cons (pv 2) pa_nil)))
      (pss_one (ps_dput (by exact hu_of hr) (pe_fldK (K := K) (by rfl) (pv 0) (by rfl)) (pv 1) (pv 2) rfl)))), ?_⟩
    walk_at "rds"
    obtain ⟨dx, ho⟩ := hS.o
    refine ⟨a, _, dx, _, _, rfl, ho, T.k_Store, T.n_Store_letters, rfl, ?_⟩
    walk_at "rds"
    refine ⟨ls, x, rfl, hx, fun H1 s1 => ?_⟩
    walk_at "rds"
    refine rd_ite (fun h => ?_) (fun h => ?_)
    · have h' : isTxtB ls x = false := by simpa using h
      walk_at "rds"
      exact fun d' hd => q1 h' d' _ (same_trans s1 (same_upd hd)) upd_same
    · have h' : isTxtB ls x = true := by simpa using h
      walk_at "rds"
      refine ⟨y, rfl, hy.ext (Same.ext s1), fun hb H2 s2 => ?_, fun hb d' H2 s2 e2 => q2 h' hb d' H2 (same_trans s1 s2) e2⟩
      obtain ⟨k, rfl⟩ : ∃ k, x = .str (tx k) := by
        cases x with
        | str z => exact ⟨z.cps.toList, by rw [tx_of]⟩
        | _ => cases h'
      obtain ⟨v, rfl⟩ : ∃ v : Int, y = .int v := by
        cases y with
        | int v => exact ⟨v, rfl⟩
        | _ => cases hb
      have hv : 0 ≤ v := of_decide_eq_true hb
      walk_at "rds"
      have ho2 := s2 _ _ (s1 _ _ ho)
      have ht2 := s2 _ _ (s1 _ _ hS.t)
      refine ⟨a, _, dx, _, _, rfl, ho2, T.k_Store, T.n_Store_table, rfl, ?_⟩
      walk_at "rds"
      refine ⟨d, _, rfl, DPut.k (k := Sum.inr (tx k)) ht2 (by rw [encT_len]; exact small1000 hm), ?_⟩
      walk_at "rds"
      rw [putK_enc]
      refine q3 k v rfl rfl h' hv _ (fun b o h1 h2 => ?_) upd_same
      rw [upd_ne h2]
      exact s2 _ _ (s1 _ _ h1)
end
section
variable {P : Program} {w : World} {K : PySem.W.Frag} {mg : Str → Option Value} {base : Heap}
def inB (ls : List Nat) (m : Tab) (x : V) : Bool := match x with | .str z => isTxtB ls x && decide (z.cps.toList ∈ keysT m) | _ => false
/-- x in store: x any value that a test may meet -/
def spIn (K : PySem.W.Frag) (C : Addr) : Sp := fun vs H Q _ => ∃ (a d : Addr) (ls : List Nat) (m : Tab) (x : V), vs = [.ref a, x] ∧ St C H a d ls m ∧ TxtOr K H x ∧
  ∀ H', Same H H' → Q (.bl (inB ls m x)) H'
theorem met_in (T : Txt K mg) : MetG P w K mg base CX0 (SC mg) "__contains__" ["self", "x"] 3 (spIn K (SC mg)) := metG_of T.k_Store T.a_Store___contains__ fun f fd F => by
  have C_is_text := cl_is_text (P := P) (w := w) (base := base) T
  refine F.ok sc_Store___contains__ (fun vs H Q E h => ?_) (fun cdv A outer s H vs Q E hr h => ?_)
  · obtain ⟨a, d, ls, m, x, rfl, _⟩ := h
    rfl
  · obtain ⟨a, d, ls, m, x, rfl, hS, hx, q⟩ := h
    refine ⟨_, (pss_one (ps_ret (pe_and (pe_cl C_is_text (hr.mono (by decide)) (by rfl) (pa_cons (pe_fldK (K := K) (by rfl) (pv 0) (by rfl)) (pa_cons (pv 1) pa_nil))) (pe_one (pe_cmp (pc_din (by exact hu_of hr) (pv 1) (pe_fldK (K := K) (by rfl) (pv 0) (by rfl)))))))), ?_⟩
    obtain ⟨dx, ho⟩ := hS.o
    walk_at "rds"
    refine ⟨a, _, dx, _, _, rfl, ho, T.k_Store, T.n_Store_letters, rfl, ?_⟩
    walk_at "rds"
    refine ⟨ls, x, rfl, hx, fun H1 s1 => ?_⟩
    walk_at "rds"
    rcases hx with ⟨u, rfl, hu⟩ | ⟨_, hn⟩
    · refine rd_ite (fun h => ?_) (fun h => ?_)
      · walk_at "rds"
        refine ⟨a, _, dx, _, _, rfl, s1 _ _ ho, T.k_Store, T.n_Store_table, rfl, ?_⟩
        refine ⟨d, _, rfl, DGet.k (k := Sum.inr (tx u)) (s1 _ _ hS.t), ?_⟩
        have e : (valV (encT m) (Sum.inr (tx u))).isSome = decide (u ∈ keysT m) := by
          rw [valV_enc]
          by_cases hk : u ∈ keysT m
          · obtain ⟨v, hv⟩ := getT_some hk
            rw [hv, decide_eq_true hk]
            rfl
          · rw [getT_none hk, decide_eq_false hk]
            rfl
        rw [e]
        have q1 := q _ s1
        have e2 : (isTxtB ls (.str (tx u)) && decide ((tx u).cps.toList ∈ keysT m)) = decide (u ∈ keysT m) := by
          rw [h, Bool.true_and, tx_cps]
        rw [← e2]
        exact q1
      · have q1 := q _ s1
        have e2 : (isTxtB ls (.str (tx u)) && decide ((tx u).cps.toList ∈ keysT m)) = false := by
          rw [h, Bool.false_and]
        rw [← e2]
        exact q1
    · rw [isTxt_not hn]
      refine rd_ite (fun h => by cases h) (fun _ => ?_)
      have q1 := q _ s1
      cases x with
      | str z => exact (hn z rfl).elim
      | _ => exact q1
def spGet (K : PySem.W.Frag) (C CK : Addr) : Sp := fun vs H Q E => ∃ (a d : Addr) (ls : List Nat) (m : Tab) (x : V), vs = [.ref a, x] ∧ St C H a d ls m ∧ TxtOr K H x ∧
  (∀ (key : List Nat) (v : Int), x = .str (tx key) → inB ls m x = true → getT m key = some v → ∀ H', Same H H' → Q (.int v) H') ∧ (inB ls m x = false → ∀ d' H', Same H H' → H' d' = some (.xd [("key", x)]) → E (.ref CK) (some d') H')
theorem met_get (T : Txt K mg) : MetG P w K mg base (L2.CX P w) (SC mg) "__getitem__" ["self", "at"] 4 (spGet K (SC mg) (ca mg "NoKey")) := metG_of T.k_Store T.a_Store___getitem__ fun f fd F => by
  have C_Store___contains__ := met_in (P := P) (w := w) (base := base) T
  have E_NoKey := mk_NoKey (P := P) (w := w) (base := base) T
  refine F.okX sc_Store___getitem__ (fun vs H Q E h => ?_) (fun cdv A outer s H vs Q E hr h => ?_)
  · obtain ⟨a, d, ls, m, x, rfl, _⟩ := h
    rfl
  · obtain ⟨a, d, ls, m, x, rfl, hS, hx, q1, q2⟩ := h
    refine ⟨_, (pss_cons (ps_if (pt_cmpR (notIn_G C_Store___contains__ hr (by decide)) (pv 1) (pv 0) (by rfl))
      (pss_one (ps_raise rfl (takes_of rfl rfl rfl rfl) (pmk_G E_NoKey hr (by decide) (by rfl) (pv 1))))
      pss_nil)
      (pss_one (ps_ret (pe_dget (by exact hu_of hr) (pe_fldK (K := K) (by rfl) (pv 0) (by rfl)) (pv 1) (fun _ _ => rfl))))), ?_⟩
    obtain ⟨dx, ho⟩ := hS.o
    walk_at "rds"
    refine ⟨a, dx, _, rfl, ho, a, d, ls, m, x, rfl, hS, hx, fun H1 s1 => ⟨_, rfl, ?_⟩⟩
    walk_at "rds"
    rw [if_pos rfl]
    refine rd_ite (fun h => ?_) (fun h => ?_)
    · walk_at "rds"
      exact fun d' hd => q2 (by simpa using h) d' _ (same_trans s1 (same_upd hd)) upd_same
    · walk_at "rds"
      have hin : inB ls m x = true := by simpa using h
      refine ⟨a, _, dx, _, _, rfl, s1 _ _ ho, T.k_Store, T.n_Store_table, rfl, ?_⟩
      walk_at "rds"
      have hz : ∃ z, x = .str z := by
        cases x with
        | str z => exact ⟨z, rfl⟩
        | _ => cases hin
      obtain ⟨z, rfl⟩ := hz
      have hzk : z = tx z.cps.toList := (tx_of z).symm
      have hk : z.cps.toList ∈ keysT m := by
        have h1 : (isTxtB ls (.str z) && decide (z.cps.toList ∈ keysT m)) = true := hin
        exact of_decide_eq_true (Bool.and_eq_true_iff.mp h1).2
      obtain ⟨v, hv⟩ := getT_some hk
      refine ⟨d, .int v, rfl, ?_, q1 z.cps.toList v (by rw [tx_of]) hin hv _ s1⟩
      have g := DGet.k (k := Sum.inr (tx z.cps.toList)) (s1 _ _ hS.t)
      rw [valV_enc, hv] at g
      rw [hzk]
      rw [tx_of] at g ⊢
      exact g
end
section
variable {P : Program} {w : World} {K : PySem.W.Frag} {mg : Str → Option Value} {base : Heap}
def spKeys (C : Addr) : Sp := fun vs H Q _ => ∃ (a d : Addr) (ls : List Nat) (m : Tab) (lo : List Nat) (hi af : Option (List Nat)), vs = [.ref a, .str (tx lo), bnd hi, bnd af] ∧ St C H a d ls m ∧ m.length ≤ 1000 ∧
  ∀ ks r H', KR m lo hi af ks → Same H H' → H r = none → H' r = some (.lst (ks.map fun k => V.str (tx k))) → Q (.ref r) H'
theorem cl_keys (T : Txt K mg) : Cl P w K mg base "_keys" ["store", "low", "high", "after"] 1 (spKeys (SC mg)) := cl_of T.a__keys fun f fd F => by
  refine F.ok sc__keys (fun vs H Q E h => ?_) (fun cdv A outer s H vs Q E hr h => ?_)
  · obtain ⟨a, d, ls, m, lo, hi, af, rfl, _⟩ := h
    rfl
  · obtain ⟨a, d, ls, m, lo, hi', af, rfl, hS, hm, q⟩ := h
    refine ⟨_, (pss_one (ps_ret (pe_callB cr_sortedT (by rfl) T.m_sorted (by decide +kernel) (pa_cons (pe_lock (pe_lc (own := [("key", 4)]) (g := gName 4) (by rfl) sc__keys.nd (pi_keys (pe_fldK (K := K) (by rfl) (pv 0) (by rfl))) (blkOk_by (own := [("key", 4)]) (N := n__keys) (sc := defScope s__keys) (by decide +kernel)) (fun _ _ _ _ _ => (pg_name (i := 4) sc__keys.nd rfl (Or.inl rfl))) (fun _ _ _ _ _ => (pts_one (PW.pt (pw_and (pt_cmpR op_leX (pv 1) (pv 4) (nomark _)) (pw_and (PW.pt (pw_or (pt_cmpR op_isN' (pv 2) pe_non (nomark _)) (pw_or1 (pt_cmpR op_ltX (pv 4) (pv 2) (nomark _))))) (pw_and1 (PW.pt (pw_or (pt_cmpR op_isN' (pv 3) pe_non (nomark _)) (pw_or1 (pt_cmpR op_gtX (pv 4) (pv 3) (nomark _))))))))))) (fun _ _ _ _ _ => (pe_callTy call_strS (by rfl) T.m_str (by decide +kernel) (pa_cons (pv 4) pa_nil))))) pa_nil)))), ?_⟩
    obtain ⟨dx, ho⟩ := hS.o
    have hne : a ≠ d := fun e => by
      rw [e, hS.t] at ho
      cases ho
    refine Un.rd_lock hS.t trivial fun od => ?_
    walk_at "rds"
    refine ⟨a, _, dx, _, _, rfl, by rw [upd_ne hne]; exact ho, T.k_Store, T.n_Store_table, rfl, d, od, rfl, .inl ⟨_, upd_same, fun e ne => ?_⟩⟩
    have hed : e ≠ d := fun z => by
      rw [z, upd_same] at ne
      cases ne
    have hee : H e = none := by
      rw [upd_ne hed] at ne
      exact ne
    refine lc_it walk_keys (fun i H' => (∀ b o, H b = some o → b ≠ d → H' b = some o) ∧ H' d = some (.frz od (.dK (encT m))) ∧ H' e = some (.lst ((((keysT m).take i).filter (inR lo hi' af)).map fun k => V.str (tx k))))
      ⟨fun b o hb hbd => ?_, ?_, ?_⟩ (fun i H' _ h => h.2.1) ?_ ?_
    · have hbe : b ≠ e := fun z => by
        rw [z, hee] at hb
        cases hb
      rw [upd_ne hbe, upd_ne hbd]
      exact hb
    · rw [upd_ne hed.symm, upd_same]
    · exact upd_same
    · rintro i x H1 H2 hi ⟨k1, k2, k3⟩ ⟨rfl, k, v, hk, rfl⟩
      obtain ⟨key, hkey, rfl⟩ := keys_at hk
      have hlen := filt_len (keysT m) i (inR lo hi' af)
      have hkl : (keysT m).length = m.length := List.length_map _
      walk_at "rds"
      refine ⟨rfl, rd_stretch rfl rfl rfl rfl ?_⟩
      refine rd_ite (fun hin => ?_) (fun hin => ?_)
      · walk_at "rds"
        refine ⟨tx key, rfl, _, k3, by rw [List.length_map]; exact small1000 (by omega), fun b o hb hbd => ?_, ?_, ?_⟩
        · have hbe : b ≠ e := fun z => by
            rw [z, hee] at hb
            cases hb
          rw [upd_ne hbe]
          exact k1 b o hb hbd
        · rw [upd_ne hed.symm]
          exact k2
        · rw [upd_same, filt_snoc hkey hin, List.map_append]
          rfl
      · rw [filt_skip hkey hin]
        exact ⟨k1, k2, k3⟩
    · rintro H2 ⟨k1, k2, k3⟩
      refine ⟨k2, ?_⟩
      rw [encT_len, ← List.length_map (f := (·.1)), show (m.map (·.1)) = keysT m from rfl, List.take_length] at k3
      refine rd_sortT (ks := (keysT m).filter (inR lo hi' af)) (SqL.of (by rw [upd_ne hed]; exact k3)) (fun js p h1 h2 hp => ?_)
      have sH : Same H (upd H2 d (.dK (encT m))) := fun b o hb => by
        by_cases hbd : b = d
        · subst hbd
          rw [upd_same]
          rw [hS.t] at hb
          exact hb
        · rw [upd_ne hbd]
          exact k1 b o hb hbd
      have hpn : H p = none := by
        cases hz : H p with
        | none => rfl
        | some o =>
          rw [sH _ _ hz] at hp
          cases hp
      exact q js p _ ⟨h1, h2⟩ (same_mut sH hpn) hpn upd_same
end
section
variable {P : Program} {w : World} {K : PySem.W.Frag} {mg : Str → Option Value} {base : Heap} {dvs : List V} {kws : List (Str × V)} {f : Addr} {fd : FuncData}
def spPairs (C : Addr) : Sp := fun vs H Q _ => ∃ (a d : Addr) (ls : List Nat) (m : Tab) (lo : List Nat) (hi af : Option (List Nat)), vs = [.ref a, .str (tx lo), bnd hi, bnd af] ∧ St C H a d ls m ∧ m.length ≤ 1000 ∧
  ∀ ks r us H', KR m lo hi af ks → Same H H' → H r = none → H' r = some (.lst us) → Prs H' (prT m ks) us → Q (.ref r) H'
theorem ok_pairs (T : Txt K mg) (F : FunD K "pairs" "Store.pairs" (defArgs s_Store_pairs) (defBody s_Store_pairs) (defScope s_Store_pairs) dvs kws f fd) : FnOk P w K mg base CX0 2 f fd ["self", "low", "high", "after"] (spPairs (SC mg)) := by
  have C__keys := cl_keys (P := P) (w := w) (base := base) T
  refine okN F sc_Store_pairs (fun vs H Q E h => ?_) (fun cdv A outer s H vs Q E hr h => ?_)
  · obtain ⟨a, d, ls, m, lo, hi, af, rfl, _⟩ := h
    rfl
  · obtain ⟨a, d, ls, m, lo, hi', af, rfl, hS, hm, q⟩ := h
    refine ⟨_, (pss_one (ps_ret (pe_lc (own := [("key", 4)]) (g := gName 4) (tt := tYes) (by rfl) sc_Store_pairs.nd (pi_list (pe_cl C__keys (hr.mono (by decide)) (by rfl) (pa_cons (pv 0) (pa_cons (pv 1) (pa_cons (pv 2) (pa_cons (pv 3) pa_nil)))))) (blkOk_by (own := [("key", 4)]) (N := n_Store_pairs) (sc := defScope s_Store_pairs) (by decide +kernel)) (fun _ _ _ _ _ => (pg_name (i := 4) sc_Store_pairs.nd rfl (Or.inl rfl))) (fun _ _ _ _ _ => pts_nil) (fun _ _ _ _ _ => (pe_tup (pa_cons (pv 4) (pa_cons (pe_dget (by exact hu_of hr) (pe_fldK (K := K) (by rfl) (pv 0) (by rfl)) (pv 4) (fun _ _ => rfl)) pa_nil))))))), ?_⟩
    obtain ⟨dx, ho⟩ := hS.o
    walk_at "rds"
    refine ⟨a, d, ls, m, lo, hi', af, rfl, hS, hm, fun ks r H1 hks s1 hr1 er1 => ?_⟩
    walk_at "rds"
    refine ⟨_, rfl, ⟨_, SqL.of er1⟩, fun e ne => lc_list (K := K) (a := r) (xs := ks.map fun k => V.str (tx k)) (fun i H' => Same H1 H' ∧ ∃ us, H' e = some (.lst us) ∧ Prs H' (prT m (ks.take i)) us) ⟨same_upd ne, [], upd_same, .nil⟩ (fun i H' _ h => SqL.of (h.1 _ _ er1)) ?_ ?_⟩
    · rintro i x H2 hx ⟨s2, us, eu, pu⟩
      rw [List.getElem?_map] at hx
      cases hk : ks[i]? with
      | none => rw [hk] at hx; cases hx
      | some key =>
        rw [hk] at hx
        cases hx
        have hkm : key ∈ keysT m := hks.mem (List.mem_of_getElem? hk)
        obtain ⟨v, hv⟩ := getT_some hkm
        have hl : us.length < sizeLine := by
          rw [← pu.len, prT_len, List.length_take]
          have := hks.len
          exact small1000 (by omega)
        walk_at "rds"
        refine ⟨rfl, ?_⟩
        walk_at "rds"
        refine rd_ite (fun _ => ?_) (fun h => by cases h)
        walk_at "rds"
        have o2 := s2 _ _ (s1 _ _ ho)
        have t2 := s2 _ _ (s1 _ _ hS.t)
        refine ⟨a, _, dx, _, _, rfl, o2, T.k_Store, T.n_Store_table, rfl, ?_⟩
        walk_at "rds"
        refine ⟨d, .int v, rfl, ?_, ?_⟩
        · have g := DGet.k (k := Sum.inr (tx key)) t2
          rw [valV_enc, hv] at g
          exact g
        walk_at "rds"
        refine ⟨by show 2 ≤ sizeLine; decide, fun p hp => ?_⟩
        have hpe : e ≠ p := fun z => by
          rw [← z, eu] at hp
          cases hp
        refine ⟨us, by rw [upd_ne hpe]; exact eu, hl, same_mut (same_mut s2 (same_none s2 hp)) ne, _, upd_same, ?_⟩
        have e1 : prT m (ks.take (i + 1)) = prT m (ks.take i) ++ [(key, v)] := by
          unfold prT
          rw [List.take_add_one, hk, Option.toList_some, List.map_append]
          show _ ++ [(key, (getT m key).getD 0)] = _
          rw [hv]
          rfl
        rw [e1]
        have hk3 : ∀ T l, H2 T = some (.tup l) → upd (upd H2 p (.tup [.str (tx key), .int v])) e (.lst (us ++ [.ref p])) T = some (.tup l) := fun T l h => by
          have h1 : T ≠ e := fun z => by
            rw [z, eu] at h
            cases h
          have h2 : T ≠ p := fun z => by
            rw [z, hp] at h
            cases h
          rw [upd_ne h1, upd_ne h2]
          exact h
        refine (pu.keep hk3).app (Prs.one ?_)
        rw [upd_ne hpe.symm, upd_same]
    · rintro H2 ⟨s2, us, eu, pu⟩
      rw [List.length_map, List.take_length] at pu
      have hen : H e = none := same_none s1 ne
      exact q ks e us H2 hks (same_trans s1 s2) hen eu pu
theorem St.keep {C : Addr} {H H' : Hp} {a d : Addr} {ls : List Nat} {m n : Tab} (h : St C H a d ls m) (k : Keep1 d H H') (t : H' d = some (.dK (encT n))) : St C H' a d ls n := by
  obtain ⟨dx, ho⟩ := h.o
  refine ⟨⟨dx, k _ _ ho fun e => ?_⟩, t⟩
  have := h.t
  rw [← e, ho] at this
  cases this
theorem St.same {C : Addr} {H H' : Hp} {a d : Addr} {ls : List Nat} {m : Tab} (h : St C H a d ls m) (k : Same H H') : St C H' a d ls m := by
  obtain ⟨dx, ho⟩ := h.o
  exact ⟨⟨dx, k _ _ ho⟩, k _ _ h.t⟩
theorem Same.keep1 {d : Addr} {H H' : Hp} (h : Same H H') : Keep1 d H H' := fun b o hb _ => h b o hb
theorem Keep1.trans {d : Addr} {H H1 H2 : Hp} (a : Keep1 d H H1) (b : Keep1 d H1 H2) : Keep1 d H H2 := fun c o hc hd => b c o (a c o hc hd) hd
theorem Keep1.put {d : Addr} {H H1 : Hp} {o : HO} (a : Keep1 d H H1) : Keep1 d H (upd H1 d o) := fun c x hc hd => by
  rw [upd_ne hd]
  exact a c x hc hd
def spFill (K : PySem.W.Frag) (C CV : Addr) : Sp := fun vs H Q E => ∃ (a : Addr) (y lo hi af : V), vs = [.ref a, y, lo, hi, af] ∧ NumOr K H y ∧ okV y = false ∧ Err1 CV "value" y H E
theorem ok_fill (T : Txt K mg) (F : FunD K "fill" "Store.fill" (defArgs s_Store_fill) (defBody s_Store_fill) (defScope s_Store_fill) dvs kws f fd) : FnOk P w K mg base (L2.CX P w) 4 f fd ["self", "value", "low", "high", "after"] (spFill K (SC mg) (CV mg)) := by
  have C__keys := cl_keys (P := P) (w := w) (base := base) T
  have C_check_value := clx_chk (P := P) (w := w) (base := base) T
  refine F.ok sc_Store_fill (fun vs H Q E h => ?_) (fun cdv A outer s H vs Q E hr h => ?_)
  · obtain ⟨a, y, lo, hi, af, rfl, _⟩ := h
    rfl
  · obtain ⟨a, y, lo, hi', af, rfl, hy, hb, q⟩ := h
    refine ⟨_, (pss_cons (ps_expr (pe_clX C_check_value (hr.mono (by decide)) (by rfl) (takes_of rfl rfl rfl rfl) (pa_cons (pv 1) pa_nil)))
      (pss_cons (ps_set (i := 5) sc_Store_fill.nd rfl (Or.inl rfl) (pe_cl C__keys (hr.mono (by decide)) (by rfl) (pa_cons (pv 0) (pa_cons (pv 2) (pa_cons (pv 3) (pa_cons (pv 4) pa_nil))))))
      (Evl.pss_cut (ps_for (passes_of rfl) rfl (pi_list (pv 5)) (pg_name (i := 6) sc_Store_fill.nd rfl (Or.inl rfl))
      (pss_one (ps_dput (by exact hu_of hr) (pe_fldK (K := K) (by rfl) (pv 0) (by rfl)) (pv 6) (pv 1) rfl)))
      (pss_one (ps_ret (pe_callB call_lenQ (by rfl) T.m_len (by decide +kernel) (pa_cons (pv 5) pa_nil))))))), ?_⟩
    walk_at "rds"
    exact ⟨y, rfl, hy, (fun hb' => absurd (hb.symm.trans hb') (by simp)), fun _ d' H1 s1 e1 => q d' H1 s1 e1⟩
end
section
variable {P : Program} {w : World} {K : PySem.W.Frag} {mg : Str → Option Value} {base : Heap} {dvs : List V} {kws : List (Str × V)} {f : Addr} {fd : FuncData}
/-- tuples of any two values -/
def TwoV (H : Hp) (p : V × V) (v : V) : Prop := ∃ T, v = .ref T ∧ H T = some (.tup [p.1, p.2])
/-- all pairs are right, or one is the first that is not -/
def BadAt (ls : List Nat) (x y z : V) (C CT CV : Addr) : Prop := (isTxtB ls x = false ∧ C = CT ∧ z = x) ∨ (isTxtB ls x = true ∧ okV y = false ∧ C = CV ∧ z = y)
def spInit (K : PySem.W.Frag) (C CT CV CL : Addr) : Sp := fun vs H Q E => ∃ (a dx p : Addr) (l : V), vs = [.ref a, l, .ref p] ∧ H a = some (.ins C dx []) ∧ TxtOr K H l ∧ (areV l = false → ∀ H', Keep1 a H H' → E (.ref CL) none H') ∧
  (areV l = true → ∃ (ls : List Nat) (us : List V) (ms : Tab), l = .str (tx ls) ∧ ls.length ≤ 1000 ∧ Seq1 K H p us ∧ ms.length ≤ 500 ∧ (∀ q ∈ ms, Ov ls q.1 ∧ 0 ≤ q.2) ∧
    ((Prs H ms us ∧ ∀ d H', Keep1 a H H' → H d = none → d ≠ a → H' a = some (.ins C dx (SF ls d)) → H' d = some (.dK (encT (putsP [] ms))) → Q .non H') ∨
     ∃ (x y z : V) (CE : Addr) (us1 us2 : List V) (u : V), us = us1 ++ u :: us2 ∧ Prs H ms us1 ∧ TwoV H (x, y) u ∧ (∀ H', Keep1 a H H' → TxtOr K H' x ∧ NumOr K H' y) ∧ BadAt ls x y z CE CT CV ∧ ∀ d H', Keep1 a H H' → H' d = some (.xd [("value", z)]) → E (.ref CE) (some d) H'))
theorem ok_init (T : Txt K mg) (F : FunD K "__init__" "Store.__init__" (defArgs s_Store___init__) (defBody s_Store___init__) (defScope s_Store___init__) dvs kws f fd) : FnOk P w K mg base (L2.CX P w) 5 f fd ["self", "letters", "pairs"] (spInit K (SC mg) (CT mg) (CV mg) (CL mg)) := by
  have C_check_letters := clx_check (P := P) (w := w) (base := base) T
  have C_Store___setitem__ := met_set (P := P) (w := w) (base := base) T
  refine F.ok sc_Store___init__ (fun vs H Q E h => ?_) (fun cdv A outer s H vs Q E hr h => ?_)
  · obtain ⟨a, dx, p, l, rfl, _⟩ := h
    rfl
  · obtain ⟨a, dx, p, l, rfl, ha, hl, q1, q2⟩ := h
    refine ⟨_, (pss_cons (ps_expr (pe_clX C_check_letters (hr.mono (by decide)) (by rfl) (takes_of rfl rfl rfl rfl) (pa_cons (pv 1) pa_nil)))
      (pss_cons (ps_fld (pv 0) (pv 1) rfl)
      (pss_cons (ps_fld (pv 0) pe_dnewK rfl)
      (pss_one (ps_for (passes_of rfl) rfl (pi_seq (pv 2)) (pg_tup rfl (pgs_cons (pg_name (i := 3) sc_Store___init__.nd rfl (Or.inl rfl)) (pgs_cons (pg_name (i := 4) sc_Store___init__.nd rfl (Or.inl rfl)) pgs_nil)))
      (pss_one (ps_asg (pv 4) (pg_sub (pv 0) (pv 3) (set_GX C_Store___setitem__ T.q_Store hr (by decide) (takes_of rfl rfl rfl rfl)))))))))), ?_⟩
    walk_at "rds"
    refine ⟨l, rfl, hl, fun hb H1 s1 => ?_, fun hb H1 s1 => q1 hb H1 (Same.keep1 s1)⟩
    obtain ⟨ls, us, ms, rfl, hz, hp, hms, hov, q⟩ := q2 hb
    walk_at "rds"
    refine ⟨a, _, dx, [], rfl, s1 _ _ ha, T.k_Store, T.n_Store_letters, by show 0 < 1000; decide, ?_⟩
    walk_at "rds"
    refine fun d hd => ?_
    have hda : d ≠ a := fun z => by
      rw [z, upd_same] at hd
      cases hd
    have hd1 : H1 d = none := by
      rw [upd_ne hda] at hd
      exact hd
    walk_at "rds"
    refine ⟨a, _, dx, _, rfl, by rw [upd_ne hda.symm]; exact upd_same, T.k_Store, T.n_Store_table, by show 1 < 1000; decide, ?_⟩
    have k3 : Keep1 a H (upd (upd (upd H1 a (.ins (SC mg) dx (putF "letters" (.str (tx ls)) []))) d (.dK [])) a (.ins (SC mg) dx (putF "table" (.ref d) (putF "letters" (.str (tx ls)) [])))) := fun b o hb hba => by
      have h1 := s1 _ _ hb
      have hbd : b ≠ d := fun z => by
        rw [z, hd1] at h1
        cases h1
      rw [upd_ne hba, upd_ne hbd, upd_ne hba]
      exact h1
    have a3 : (upd (upd (upd H1 a (.ins (SC mg) dx (putF "letters" (.str (tx ls)) []))) d (.dK [])) a (.ins (SC mg) dx (putF "table" (.ref d) (putF "letters" (.str (tx ls)) [])))) a = some (.ins (SC mg) dx (SF ls d)) := upd_same
    have d3 : (upd (upd (upd H1 a (.ins (SC mg) dx (putF "letters" (.str (tx ls)) []))) d (.dK [])) a (.ins (SC mg) dx (putF "table" (.ref d) (putF "letters" (.str (tx ls)) [])))) d = some (.dK (encT [])) := by
      rw [upd_ne hda, upd_same]
      rfl
    generalize upd (upd (upd H1 a (.ins (SC mg) dx (putF "letters" (.str (tx ls)) []))) d (.dK [])) a (.ins (SC mg) dx (putF "table" (.ref d) (putF "letters" (.str (tx ls)) []))) = H3 at k3 a3 d3 ⊢
    have hd0 : H d = none := same_none s1 hd1
    have nins : ∀ {b o}, H b = some o → (∀ C' e fs, o ≠ .ins C' e fs) → b ≠ a := fun {b o} h n z => by
      rw [z, ha] at h
      cases h
      exact n _ _ _ rfl
    have hp3 : Seq1 K H3 p us := hp.keep fun o ho h => k3 _ _ h (nins h fun _ _ _ z => by rw [z] at ho; exact SeqO.nins ho)
    have tup3 : ∀ T' l', H T' = some (.tup l') → H3 T' = some (.tup l') := fun T' l' h => k3 _ _ h (nins h fun _ _ _ z => by cases z)
    have hS3 : St (SC mg) H3 a d ls [] := ⟨⟨dx, a3⟩, d3⟩
    have kEnd : ∀ {H4 : Hp}, Keep1 d H3 H4 → Keep1 a H H4 := fun {H4} k4 b o hb hba => k4 _ _ (k3 _ _ hb hba) fun z => by
      rw [z, hd0] at hb
      cases hb
    have goodStep : ∀ {i : Nat} {key : List Nat} {v : Int} {H4 : Hp} {Q' : Hp → Prop}, ms[i]? = some (key, v) → Keep1 d H3 H4 → H4 d = some (.dK (encT (putsP [] (ms.take i)))) →
        (∀ H6, Keep1 d H3 H6 → H6 d = some (.dK (encT (putsP [] (ms.take (i + 1))))) → Q' H6) →
        rSetO (SC mg) (spSet K (SC mg) (CT mg) (CV mg)) E (.ref a) (.str (tx key)) (.int v) H4 Q' := fun {i key v H4 Q'} hm k4 t4 q' => by
      have hS5 := hS3.keep k4 t4
      obtain ⟨dx5, ho5⟩ := hS5.o
      have hq := hov _ (List.mem_of_getElem? hm)
      have hlen := putsP_len (ms.take i) []
      rw [List.length_take, List.length_nil] at hlen
      refine ⟨a, _, _, rfl, ho5, a, d, ls, _, .str (tx key), .int v, rfl, hS5, .inl ⟨key, rfl, hq.1.2⟩, .inl ⟨v, rfl⟩, by omega, fun hx => absurd (isTxt_ov hq.1) (by rw [hx]; simp), fun _ hy => ?_, ?_⟩
      · have h1 : okV (.int v) = true := decide_eq_true hq.2
        rw [hy] at h1
        cases h1
      intro k' v' e1 e2 _ _ H6 k6 t6
      cases tx_inj (V.str.inj e1)
      cases e2
      exact q' H6 (k4.trans k6) (by rw [t6, putsP_snoc hm])
    walk_at "rds"
    refine rd_iSeqF (fun Q q => rd_var rfl q) hp3 (fun J G W hG => ?_)
    have keepG : ∀ {H'}, Keep1 d H3 H' → G H' := fun {H'} k => hG _ fun o ho h1 => k _ _ h1 fun z => by
      rw [z, d3] at h1
      cases h1
      exact SeqO.ndK ho
    rcases q with ⟨hpr, q⟩ | ⟨x, y, z, CE, us1, us2, u, rfl, hpr, ⟨U, hU, hUt⟩, hxy, hbad, q⟩
    · have hpr3 : Prs H3 ms us := hpr.keep fun T' l' h => tup3 _ _ h
      refine for_it W (fun i σ' H' => (∃ y z, σ' = [some (.ref a), some (.str (tx ls)), some (.ref p), y, z]) ∧ Keep1 d H3 H' ∧ H' d = some (.dK (encT (putsP [] (ms.take i))))) ⟨⟨_, _, rfl⟩, Same.keep1 (same_refl _), d3⟩ (fun i σ' H' _ h => keepG h.2.1) ?_ ?_
      · rintro i x σ' H4 H5 hi ⟨⟨y, z, rfl⟩, k4, t4⟩ ⟨rfl, hx⟩
        obtain ⟨⟨key, v⟩, hms', ⟨U, rfl, hU⟩⟩ := hpr3.get hx
        have hUd : U ≠ d := fun z => by
          rw [z, d3] at hU
          cases hU
        refine rd_gtup (SqT.of (k4 _ _ hU hUd)) rfl ?_
        walk_at "rds"
        exact goodStep hms' k4 t4 fun H6 k6 t6 => ⟨⟨_, _, rfl⟩, k6, t6⟩
      · rintro σ' H4 ⟨_, k4, t4⟩
        rw [← hpr.len, List.take_length] at t4
        exact q d H4 (kEnd k4) hd0 hda (k4 _ _ a3 hda.symm) t4
    · have hpr3 : Prs H3 ms us1 := hpr.keep fun T' l' h => tup3 _ _ h
      have hl1 := hpr.len
      refine for_it W (fun i σ' H' => i ≤ us1.length ∧ (∃ y z, σ' = [some (.ref a), some (.str (tx ls)), some (.ref p), y, z]) ∧ Keep1 d H3 H' ∧ H' d = some (.dK (encT (putsP [] (ms.take i))))) ⟨Nat.zero_le _, ⟨_, _, rfl⟩, Same.keep1 (same_refl _), d3⟩ (fun i σ' H' _ h => keepG h.2.2.1) ?_ ?_
      · rintro i x' σ' H4 H5 hi ⟨hile, ⟨y', z', rfl⟩, k4, t4⟩ ⟨rfl, hx⟩
        by_cases hlt : i < us1.length
        · rw [List.getElem?_append_left hlt] at hx
          obtain ⟨⟨key, v⟩, hms', ⟨U', rfl, hU'⟩⟩ := hpr3.get hx
          have hUd : U' ≠ d := fun z => by
            rw [z, d3] at hU'
            cases hU'
          refine rd_gtup (SqT.of (k4 _ _ hU' hUd)) rfl ?_
          walk_at "rds"
          exact goodStep hms' k4 t4 fun H6 k6 t6 => ⟨hlt, ⟨_, _, rfl⟩, k6, t6⟩
        · have hi' : i = us1.length := by omega
          subst hi'
          rw [List.getElem?_append_right (Nat.le_refl _), Nat.sub_self] at hx
          cases hx
          subst hU
          have hU3 := tup3 _ _ hUt
          have hUd : U ≠ d := fun z => by
            rw [z, d3] at hU3
            cases hU3
          refine rd_gtup (SqT.of (k4 _ _ hU3 hUd)) rfl ?_
          walk_at "rds"
          have hS5 := hS3.keep k4 t4
          obtain ⟨dx5, ho5⟩ := hS5.o
          obtain ⟨hx5, hy5⟩ := hxy _ (kEnd k4)
          have hlen := putsP_len (ms.take us1.length) []
          rw [List.length_take, List.length_nil] at hlen
          refine ⟨a, _, _, rfl, ho5, a, d, ls, _, x, y, rfl, hS5, hx5, hy5, by omega, fun hx d' H6 s6 e6 => ?_, fun hx hy d' H6 s6 e6 => ?_, fun k v e1 e2 h1 h2 => ?_⟩
          · rcases hbad with ⟨_, rfl, rfl⟩ | ⟨hx', _⟩
            · exact q d' H6 (kEnd (k4.trans (Same.keep1 s6))) e6
            · rw [hx] at hx'
              cases hx'
          · rcases hbad with ⟨hx', _⟩ | ⟨_, _, rfl, rfl⟩
            · rw [hx] at hx'
              cases hx'
            · exact q d' H6 (kEnd (k4.trans (Same.keep1 s6))) e6
          · rcases hbad with ⟨hx', _⟩ | ⟨_, hy', _⟩
            · rw [h1] at hx'
              cases hx'
            · rw [e2] at hy'
              have := of_decide_eq_false hy'
              omega
      · rintro σ' H4 ⟨hle, _⟩
        rw [List.length_append, List.length_cons] at hle
        omega
end
section
variable {P : Program} {w : World} {K : PySem.W.Frag} {mg : Str → Option Value} {base : Heap}
abbrev spI (K : PySem.W.Frag) (mg : Str → Option Value) : Sp := spInit K (SC mg) (CT mg) (CV mg) (CL mg)
/-- Store(letters, pairs) -/
theorem mk_Store_2 (T : Txt K mg) : MakX P w K mg base "Store" (SC mg) 5 (spI K mg) [] := by
  obtain ⟨f, T', fd, F, M, _⟩ := T.d_Store___init__
  obtain ⟨ds, v, b⟩ := F.binds1 (ps := ["self", "letters", "pairs"]) 3 1 (by simp) rfl fun T kV doc pm an cdv ct us its h1 h2 => match us, its, h1, h2 with | [_, _, _], [_], _, _ => ⟨_, rfl, rfl⟩
  exact ⟨f, fd, _, ds, M, ok_init T F, T.g_Store, b, v⟩
/-- Store(letters) -/
theorem mk_Store_1 (T : Txt K mg) : ∃ E, (∀ H, Seq1 K H E []) ∧ MakX P w K mg base "Store" (SC mg) 5 (spI K mg) [.ref E] := by
  obtain ⟨f, T', fd, F, M, o, ho, hc, hd, hn⟩ := T.d_Store___init__
  obtain ⟨ds, v, b⟩ := F.binds1 (ps := ["self", "letters", "pairs"]) 2 0 (by simp) rfl fun T kV doc pm an cdv ct us its h1 h2 => match us, its, h1, h2 with | [_, _], [_], _, _ => ⟨_, rfl, rfl⟩
  exact ⟨T', fun H => .inr (.inr ⟨o, #[], 0, ho, hc, hd, by decide, .nil⟩), f, fd, _, ds, M, ok_init T F, T.g_Store, b, v⟩
abbrev gAll : List V → List V → List V := fun vs zs => vs ++ zs
theorem at_pairs_1 (T : Txt K mg) : MetD P w K mg base (SC mg) "pairs" 2 (spPairs (SC mg)) [.str (tx []), .non, .non] := by
  obtain ⟨f, fd, F, M, i⟩ := T.d_Store_pairs
  obtain ⟨ds, v, b⟩ := F.binds (ps := ["self", "low", "high", "after"]) 1 0 (by simp) rfl (fun T D doc pm an cdv ct us its ks h1 h2 h3 => match us, its, ks, h1, h2, h3 with | [_], [_, _], [_], _, _, _ => ⟨_, rfl, _, _, _, _, _, _, rfl, rfl, rfl⟩) (by simp)
  exact ⟨f, fd, _, ds, T.k_Store, M, ok_pairs T F, b, v⟩
theorem at_fill_k4 (T : Txt K mg) : MetKX P w K mg base (SC mg) "fill" 4 ["after"] 4 (spFill K (SC mg) (CV mg)) gAll := by
  obtain ⟨f, fd, F, M, i⟩ := T.d_Store_fill
  obtain ⟨mv, b⟩ := F.kbinds0 (ps := ["self", "value", "low", "high", "after"]) 4 ["after"] [] (fun us mv ws => us ++ ws) (by simp) (by simp) (fun a _ b => a.append b) fun D doc pm an cdv ct us mv ws h1 h2 h3 => match us, mv, ws, h1, h2, h3 with | [_, _, _, _], [], [_], _, _, _ => rfl
  exact ⟨f, fd, _, _, T.k_Store, M, ok_fill T F, b⟩
theorem at_fill_4 (T : Txt K mg) : MetDX P w K mg base (SC mg) "fill" 4 (spFill K (SC mg) (CV mg)) [.non] := by
  obtain ⟨f, fd, F, M, i⟩ := T.d_Store_fill
  obtain ⟨ds, v, b⟩ := F.binds0 (ps := ["self", "value", "low", "high", "after"]) 4 (by simp) rfl (fun T doc pm an cdv ct us ks h1 h2 => match us, ks, h1, h2 with | [_, _, _, _], [_], _, _ => ⟨_, _, _, _, _, _, rfl, rfl, rfl⟩)
  exact ⟨f, fd, _, ds, T.k_Store, M, ok_fill T F, b, v⟩
end
section
variable {P : Program} {w : World} {K : PySem.W.Frag} {mg : Str → Option Value} {base : Heap}
/-- the source of draws stands at D, its great cells at L -/
def Deal (D L : Addr) (H : Hp) : Prop := ∃ (cs : List Int) (m : Int), H D = some (.lst [.ref L, .int m]) ∧ H L = some (.lst (cs.map V.int)) ∧ 0 ≤ m ∧ m < 2147483647 ∧ cs.length ≤ 63
theorem Deal.ne {D L : Addr} {H : Hp} (d : Deal D L H) : D ≠ L := by
  obtain ⟨cs, m, h1, h2, _⟩ := d
  refine ne_of h1 h2 fun z => ?_
  have e : [V.ref L, V.int m] = cs.map V.int := by injection z
  cases cs with
  | nil => simp at e
  | cons c r => simp at e
theorem Deal.keep {D L : Addr} {H H' : Hp} (d : Deal D L H) (s : Same H H') : Deal D L H' := by
  obtain ⟨cs, m, h1, h2, h⟩ := d
  exact ⟨cs, m, s _ _ h1, s _ _ h2, h⟩
theorem Deal.new {D L p : Addr} {H : Hp} (d : Deal D L H) (h : H p = none) : p ≠ D ∧ p ≠ L := by
  obtain ⟨cs, m, h1, h2, _⟩ := d
  exact ⟨(ne_of_none h1 h).symm, (ne_of_none h2 h).symm⟩
def spDraw : Sp := fun vs H Q _ => ∃ (D L : Addr) (n : Int), vs = [.ref D, .int n] ∧ Deal D L H ∧ 0 < n ∧ n < 2 ^ 200 ∧ ∀ (k : Int) (H' : Hp), 0 ≤ k → k < n → Keep D L H H' → Deal D L H' → Q (.int k) H'
theorem cl_draw (T : Txt K mg) : Cl P w K mg base "_law_draw" ["_law_deal_here", "_law_many"] 1 spDraw := cl_of T.a__law_draw fun f fd F => by
  refine F.ok sc__law_draw (fun vs H Q E h => ?_) (fun cdv A outer s H vs Q E hr h => ?_)
  · obtain ⟨D, L, n, rfl, _⟩ := h
    rfl
  · obtain ⟨D, L, n, rfl, d, hn, hn2, q⟩ := h
    refine ⟨_, (Evl.pss_cut (ps_while PassesOwn.never (PW.pt (pw_and (pt_cmpR (op_neD hr.units) (pe_ix ix_list (pv 0) pe_int (fun _ _ => rfl)) (pe_lst pa_nil) (nomark _)) (pw_and1 (pt_cmpR op_eq (pe_ix ix_list (pe_ix ix_list (pv 0) pe_int (fun _ _ => rfl)) (pe_un un_neg pe_int) (fun _ _ => rfl)) pe_int (nomark _)))))
      (pss_one (ps_expr (pe_bm0 PySem.F.plainAttrs_list PySem.F.slot_list_pop PySem.F.type_list_pop mt_pop (pe_ix ix_list (pv 0) pe_int (fun _ _ => rfl))))))
      (pss_cons (ps_if (pt_cmpR (op_neD hr.units) (pe_ix ix_list (pv 0) pe_int (fun _ _ => rfl)) (pe_lst pa_nil) (nomark _))
      (pss_cons (ps_set (i := 2) sc__law_draw.nd rfl (Or.inl rfl) (pe_bm0 PySem.F.plainAttrs_list PySem.F.slot_list_pop PySem.F.type_list_pop mt_pop (pe_ix ix_list (pv 0) pe_int (fun _ _ => rfl))))
      (pss_cons (ps_expr (pe_bm PySem.F.plainAttrs_list PySem.F.slot_list_append PySem.F.type_list_append mt_append (pe_ix ix_list (pv 0) pe_int (fun _ _ => rfl)) (pa_cons (pe_op op_fdivW (pv 2) (pv 1)) pa_nil)))
      (pss_one (ps_ret (pe_op op_mod (pe_callTy call_intI (by rfl) T.m_int (by decide +kernel) (pa_cons (pv 2) pa_nil)) (pv 1))))))
      pss_nil)
      (pss_cons (ps_asg (pe_op op_mod (pe_callTy call_intI (by rfl) T.m_int (by decide +kernel) (pa_cons (pe_op op_mulW (pe_ix ix_list (pv 0) pe_int (fun _ _ => rfl)) pe_int) pa_nil)) pe_int) (pg_sub (pv 0) pe_int set_list))
      (pss_one (ps_ret (pe_op op_mod (pe_callTy call_intI (by rfl) T.m_int (by decide +kernel) (pa_cons (pe_op op_fdivW (pe_ix ix_list (pv 0) pe_int (fun _ _ => rfl)) pe_int) pa_nil)) (pv 1))))))), ?_⟩
    obtain ⟨cs, m, hD, hL, hm⟩ := d
    obtain ⟨hm1, hm2, hm3⟩ := hm
    -- the zeros at the end are thrown away
    refine ⟨fun σ H' => ∃ cs' : List Int, σ = [some (.ref D), some (.int n), none] ∧ cs'.length ≤ 63 ∧ Keep D L H H' ∧ H' D = some (.lst [.ref L, .int m]) ∧ H' L = some (.lst (cs'.map V.int)), ?_, ?_⟩
    · refine ⟨fun k σ H' => ∃ cs' : List Int, σ = [some (.ref D), some (.int n), none] ∧ k = cs'.length ∧ cs'.length ≤ 63 ∧ Keep D L H H' ∧ H' D = some (.lst [.ref L, .int m]) ∧ H' L = some (.lst (cs'.map V.int)), ⟨cs.length, cs, rfl, rfl, hm3, Keep.refl H, hD, hL⟩, ?_⟩
      rintro k σ H1 ⟨cs', rfl, rfl, hlen, kp, h1, h2⟩
      walk_at "rds"
      refine rd_ixL (SqL.of h1) (by rfl) ?_
      walk_at "rds"
      refine ⟨Nat.zero_le _, fun e he => ?_⟩
      have s1 : Same H1 (upd H1 e (.lst [])) := same_upd he
      have h1' := s1 _ _ h1
      have h2' := s1 _ _ h2
      have kp' : Keep D L H (upd H1 e (.lst [])) := kp.trans (Keep.of_same s1)
      refine rd_neNil (SqL.of h2') (SqL.of upd_same) ?_
      generalize upd H1 e (.lst []) = H2 at *
      clear s1
      walk_at "rds"
      refine rd_ite (fun hb => ?_) (fun hb => ?_)
      · -- the last cell
        have hne : cs' ≠ [] := by
          rintro rfl
          simp at hb
        obtain ⟨ys, z, rfl⟩ : ∃ ys z, cs' = ys ++ [z] := ⟨cs'.dropLast, cs'.getLast hne, (List.dropLast_concat_getLast hne).symm⟩
        have h2'' : H2 L = some (.lst (ys.map V.int ++ [.int z])) := by rw [h2', List.map_append]; rfl
        walk_at "rds"
        refine rd_ixL (SqL.of h1') (by rfl) ?_
        walk_at "rds"
        refine rd_ixL (SqL.of h2'') (atI_last _ _) ?_
        walk_at "rds"
        refine rd_ite (fun hz => ?_) (fun hz => ?_)
        · refine ⟨fun σ' H' => ∃ cs' : List Int, σ' = [some (.ref D), some (.int n), none] ∧ cs'.length < ys.length + 1 ∧ Keep D L H H' ∧ H' D = some (.lst [.ref L, .int m]) ∧ H' L = some (.lst (cs'.map V.int)), ?_, ?_⟩
          · rintro σ' H' ⟨cs2, e1, e2, e3, e4, e5⟩
            rw [List.length_append] at hlen
            exact ⟨cs2.length, by simpa using e2, cs2, e1, rfl, by simp at hlen; omega, e3, e4, e5⟩
          · walk_at "rds"
            refine rd_ixL (SqL.of h1') (by rfl) ?_
            refine rd_tyL (SqL.of h2'') ?_
            refine rd_pop h2'' ?_
            have hDL : D ≠ L := ne_of h1' h2'' fun z => by
              injection z with z
              cases ys <;> simp at z
            exact ⟨ys, rfl, Nat.lt_succ_self _, kp'.trans (Keep.own (.inr rfl)), by rw [upd_ne hDL]; exact h1', upd_same⟩
        · exact ⟨_, rfl, hlen, kp', h1', h2'⟩
      · exact ⟨_, rfl, hlen, kp', h1', h2'⟩
    · rintro σ' H1 ⟨cs', rfl, hlen, kp, h1, h2⟩
      walk_at "rds"
      refine rd_ixL (SqL.of h1) (by rfl) ?_
      walk_at "rds"
      refine ⟨Nat.zero_le _, fun e he => ?_⟩
      have s1 : Same H1 (upd H1 e (.lst [])) := same_upd he
      have h1' := s1 _ _ h1
      have h2' := s1 _ _ h2
      have kp' : Keep D L H (upd H1 e (.lst [])) := kp.trans (Keep.of_same s1)
      refine rd_neNil (SqL.of h2') (SqL.of upd_same) ?_
      generalize upd H1 e (.lst []) = H2 at *
      clear s1
      have hd : Deal D L H2 := ⟨cs', m, h1', h2', hm1, hm2, hlen⟩
      have hDL := hd.ne
      walk_at "rds"
      refine rd_ite (fun hb => ?_) (fun hb => ?_)
      · have hne : cs' ≠ [] := by
          rintro rfl
          simp at hb
        obtain ⟨ys, z, rfl⟩ : ∃ ys z, cs' = ys ++ [z] := ⟨cs'.dropLast, cs'.getLast hne, (List.dropLast_concat_getLast hne).symm⟩
        have h2'' : H2 L = some (.lst (ys.map V.int ++ [.int z])) := by rw [h2', List.map_append]; rfl
        rw [List.length_append] at hlen
        simp only [List.length_cons, List.length_nil] at hlen
        walk_at "rds"
        refine rd_ixL (SqL.of h1') (by rfl) ?_
        refine rd_tyL (SqL.of h2'') ?_
        refine rd_pop h2'' ?_
        have h1c : upd H2 L (.lst (ys.map V.int)) D = some (.lst [.ref L, .int m]) := by rw [upd_ne hDL]; exact h1'
        walk_at "rds"
        refine rd_ixL (SqL.of h1c) (by rfl) ?_
        refine rd_tyL (SqL.of upd_same) ?_
        walk_at "rds"
        refine rd_I (wide_div hn (b := 200) (by omega) (by decide) (by decide)) ?_
        walk_at "rds"
        refine rd_app upd_same (by rw [List.length_map]; exact small1000 (by omega)) ?_
        walk_at "rds"
        refine rd_I hn ?_
        rw [upd_upd]
        refine q (z % n) _ (Int.emod_nonneg _ (by omega)) (Int.emod_lt_of_pos _ hn) (kp'.trans (Keep.own (.inr rfl))) ⟨ys ++ [z / n], m, by rw [upd_ne hDL]; exact h1', ?_, hm1, hm2, by simpa using hlen⟩
        rw [upd_same, List.map_append]
        rfl
      · walk_at "rds"
        refine rd_ixL (SqL.of h1') (by rfl) ?_
        walk_at "rds"
        refine rd_I (mulW_of (by omega) (by decide)) ?_
        walk_at "rds"
        refine rd_I (by decide) ?_
        walk_at "rds"
        refine rd_setL h1' (by rfl) ?_
        walk_at "rds"
        refine rd_ixL (SqL.of upd_same) (by rfl) ?_
        walk_at "rds"
        refine rd_I (wide_div (b := 10) (by decide) (by decide) (by decide) (by decide)) ?_
        walk_at "rds"
        refine rd_I hn ?_
        refine q _ _ (Int.emod_nonneg _ (by omega)) (Int.emod_lt_of_pos _ hn) (kp'.trans (Keep.own (.inl rfl))) ⟨cs', m * 48271 % 2147483647, upd_same, by rw [upd_ne hDL.symm]; exact h2', Int.emod_nonneg _ (by decide), Int.emod_lt_of_pos _ (by decide), hlen⟩
/-- the source is made -/
def spDeal (K : PySem.W.Frag) : Sp := fun vs H Q _ => ∃ (a : Addr) (ns : List Int) (b : Int), vs = [.ref a, .int b] ∧ SqL K H a (ns.map V.int) ∧ ns.length ≤ 63 ∧ 0 ≤ b ∧ b ≤ 1000 ∧
  ∀ (D L : Addr) (H' : Hp), H D = none → H L = none → Same H H' → Deal D L H' → Q (.ref D) H'
theorem cl_deal (T : Txt K mg) : Cl P w K mg base "_law_deal" ["_law_script", "_law_base"] 1 (spDeal K) := cl_of T.a__law_deal fun f fd F => by
  refine F.ok sc__law_deal (fun vs H Q E h => ?_) (fun cdv A outer s H vs Q E hr h => ?_)
  · obtain ⟨a, ns, b, rfl, _⟩ := h
    rfl
  · obtain ⟨a, ns, b, rfl, hS, hlen, hb0, hb1, q⟩ := h
    refine ⟨_, (pss_cons (ps_setLc (i := 3) (own := [("_law_cell", 2)]) (g := gName 2) (tt := tYes) (by rfl) sc__law_deal.nd rfl rfl (sw_true rfl rfl rfl (by decide +kernel)) (pi_list (pe_slice sl_list (pv 0) (po_some (pv 1)) (po_some pe_int))) (blkOk_by (own := [("_law_cell", 2)]) (N := n__law_deal) (sc := defScope s__law_deal) (by decide +kernel)) (fun _ _ _ _ _ => (pg_name (i := 2) sc__law_deal.nd rfl (Or.inl rfl))) (fun _ _ _ _ _ => pts_nil) (fun _ _ _ _ _ => (pe_callB call_abs (by rfl) T.m_abs (by decide +kernel) (pa_cons (pv 2) pa_nil))))
      (pss_cons (ps_set (i := 4) sc__law_deal.nd rfl (Or.inl rfl) (pe_op op_add pe_int (pe_op op_mulW pe_int (pv 1))))
      (Evl.pss_cut (ps_for PassesOwn.never rfl (pi_list (pv 3)) (pg_name (i := 2) sc__law_deal.nd rfl (Or.inl rfl))
      (pss_one (ps_set (i := 4) sc__law_deal.nd rfl (Or.inl rfl) (pe_op op_mod (pe_callTy call_intI (by rfl) T.m_int (by decide +kernel) (pa_cons (pe_op op_add (pe_op op_mulW (pv 4) pe_int) (pe_op op_mod (pe_callTy call_intI (by rfl) T.m_int (by decide +kernel) (pa_cons (pv 2) pa_nil)) pe_int)) pa_nil)) pe_int))))
      (pss_one (ps_ret (pe_lst (pa_cons (pe_revL (pe_lc (own := [("_law_cell", 2)]) (g := gName 2) (by rfl) sc__law_deal.nd (pi_list (pv 3)) (blkOk_by (own := [("_law_cell", 2)]) (N := n__law_deal) (sc := defScope s__law_deal) (by decide +kernel)) (fun _ _ _ _ _ => (pg_name (i := 2) sc__law_deal.nd rfl (Or.inl rfl))) (fun _ _ _ _ _ => (pts_one (pt_cmpR op_ge (pv 2) (pe_op op_pow pe_int pe_int) (nomark _)))) (fun _ _ _ _ _ => (pv 2)))) (pa_cons (pv 4) pa_nil)))))))), ?_⟩
    walk_at "rds"
    refine rd_slL hS fun p np => ?_
    obtain ⟨zs, ez, hz⟩ := cutV_ints ns (some b) (some 63)
    rw [ez]
    have s1 : Same H (upd H p (.lst (zs.map V.int))) := same_upd np
    have hp : upd H p (.lst (zs.map V.int)) p = some (.lst (zs.map V.int)) := upd_same
    generalize upd H p (.lst (zs.map V.int)) = H1 at *
    refine ⟨_, rfl, ⟨_, SqL.of hp⟩, fun c nc => lc_list (K := K) (a := p) (xs := zs.map V.int) (fun i H' => Same H1 H' ∧ H' c = some (.lst ((zs.take i).map fun z => V.int (if z < 0 then -z else z)))) ⟨same_upd nc, upd_same⟩ (fun i H' _ h => SqL.of (h.1 _ _ hp)) ?_ ?_⟩
    · rintro i x H2 hx ⟨s2, hc⟩
      obtain ⟨z, hz', rfl⟩ := get_map hx
      have hl : i < zs.length := (List.getElem?_eq_some_iff.mp hz').1
      walk_at "rds"
      refine ⟨rfl, ?_⟩
      walk_at "rds"
      refine rd_ite (fun _ => ?_) (fun h => by cases h)
      walk_at "rds"
      refine ⟨z, rfl, _, hc, by rw [List.length_map, List.length_take]; exact small1000 (by omega), same_mut s2 nc, ?_⟩
      rw [upd_same, take_snoc _ hz']
    · rintro H2 ⟨s2, hc0⟩
      obtain ⟨cs, hcs, hc⟩ : ∃ cs : List Int, cs.length ≤ 63 ∧ H2 c = some (.lst (cs.map V.int)) := ⟨zs.map fun z => if z < 0 then -z else z, by rw [List.length_map]; omega, by
        rw [hc0, List.length_map, List.take_length, List.map_map]
        rfl⟩
      have sH : Same H H2 := s1.trans s2
      clear hc0 s1 s2 hp nc np ez hz
      walk_at "rds"
      refine rd_I (mulW_of (by decide) (by omega)) ?_
      walk_at "rds"
      -- the number that is mixed
      refine rd_cut (fun σ' H' => ∃ (y : Option V) (m : Int), σ' = [some (.ref a), some (.int b), y, some (.ref c), some (.int m)] ∧ H' = H2 ∧ 0 ≤ m ∧ m < 2147483647) ?_ ?_
      · walk_at "rds"
        refine ⟨_, rfl, ⟨_, SqL.of hc⟩, for_list (K := K) (a := c) (xs := cs.map V.int) (fun i σ' H' => ∃ (y : Option V) (m : Int), σ' = [some (.ref a), some (.int b), y, some (.ref c), some (.int m)] ∧ H' = H2 ∧ 0 ≤ m ∧ m < 2147483647) ⟨none, 15485863 + 11 * b, rfl, rfl, by omega, by omega⟩ (fun i σ' H' _ h => ?_) ?_ (fun σ' H' h => h)⟩
        · obtain ⟨y, m, _, rfl, _⟩ := h
          exact SqL.of hc
        · rintro i x σ' H' hx ⟨y, m, rfl, rfl, hm1, hm2⟩
          obtain ⟨z, hz', rfl⟩ := get_map hx
          walk_at "rds"
          refine rd_I (mulW_of (by omega) (by decide)) ?_
          walk_at "rds"
          refine rd_I (by decide) ?_
          walk_at "rds"
          refine rd_I (by decide) ?_
          walk_at "rds"
          exact ⟨_, _, rfl, rfl, Int.emod_nonneg _ (by decide), Int.emod_lt_of_pos _ (by decide)⟩
      · rintro σ' H' ⟨y, m, rfl, rfl, hm1, hm2⟩
        walk_at "rds"
        refine ⟨_, rfl, ⟨_, SqL.of hc⟩, fun e ne => lc_list (K := K) (a := c) (xs := cs.map V.int) (fun i H3 => Same H' H3 ∧ ∃ ds : List Int, ds.length ≤ i ∧ H3 e = some (.lst (ds.map V.int))) ⟨same_upd ne, [], Nat.le_refl _, upd_same⟩ (fun i H3 _ h => SqL.of (h.1 _ _ hc)) ?_ ?_⟩
        · rintro i x H3 hx ⟨s3, ds, hd, he⟩
          obtain ⟨z, hz', rfl⟩ := get_map hx
          have hl : i < cs.length := (List.getElem?_eq_some_iff.mp hz').1
          walk_at "rds"
          refine ⟨rfl, ?_⟩
          walk_at "rds"
          refine rd_I ⟨by decide, by decide, by decide⟩ ?_
          walk_at "rds"
          refine rd_ite (fun h0 => ?_) (fun h0 => ?_)
          · walk_at "rds"
            refine ⟨_, he, by rw [List.length_map]; exact small1000 (by omega), same_mut s3 ne, ds ++ [z], by simpa using hd, ?_⟩
            rw [upd_same, List.map_append]
            rfl
          · exact ⟨s3, ds, by omega, he⟩
        · rintro H3 ⟨s3, ds, hd, he⟩
          rw [List.length_map] at hd
          refine ⟨e, _, rfl, SqL.of he, fun l nl => ?_⟩
          have e1 : (ds.map V.int).reverse = ds.reverse.map V.int := by rw [List.map_reverse]
          rw [e1]
          walk_at "rds"
          refine ⟨(by show 2 ≤ sizeLine; decide), fun d nd => ?_⟩
          have s4 : Same H3 (upd H3 l (.lst (ds.reverse.map V.int))) := same_upd nl
          have s5 := same_upd (o := .lst [V.ref l, V.int m]) nd
          have nl2 : H l = none := (sH.trans s3).free nl
          refine q d l _ ((sH.trans (s3.trans s4)).free nd) nl2 (sH.trans (s3.trans (s4.trans s5))) ⟨ds.reverse, m, upd_same, ?_, hm1, hm2, by rw [List.length_reverse]; omega⟩
          rw [upd_ne (ne_of_none upd_same nd), upd_same]
/-- a sequence to pick from: a list, or a text by its sgs -/
def SeqV (K : PySem.W.Frag) (H : Hp) (D L : Addr) (v : V) (ys : List V) : Prop := (∃ a, v = .ref a ∧ a ≠ D ∧ a ≠ L ∧ SqL K H a ys) ∨ (∃ l, v = .str (tx l) ∧ ys = sgs l)
def spPick (K : PySem.W.Frag) : Sp := fun vs H Q _ => ∃ (D L : Addr) (v : V) (ys : List V), vs = [.ref D, v] ∧ Deal D L H ∧ SeqV K H D L v ys ∧ 0 < ys.length ∧ ys.length ≤ 1000 ∧ ∀ (x : V) (H' : Hp), x ∈ ys → Keep D L H H' → Deal D L H' → Q x H'
theorem keep_seq {K : PySem.W.Frag} {H H' : Hp} {D L a : Addr} {ys : List V} (k : Keep D L H H') (h1 : a ≠ D) (h2 : a ≠ L) (h : SqL K H a ys) : SqL K H' a ys := by
  rcases h with (h | ⟨o, h⟩) | h
  · exact .inl (.inl (k _ _ h h1 h2))
  · exact .inl (.inr ⟨o, k _ _ h h1 h2⟩)
  · exact .inr h
theorem cl_pick (T : Txt K mg) : Cl P w K mg base "_law_pick" ["_law_deal_here", "_law_some"] 2 (spPick K) := cl_of T.a__law_pick fun f fd F => by
  have C__law_draw := cl_draw (P := P) (w := w) (base := base) T
  refine F.ok sc__law_pick (fun vs H Q E h => ?_) (fun cdv A outer s H vs Q E hr h => ?_)
  · obtain ⟨D, L, v, ys, rfl, _⟩ := h
    rfl
  · obtain ⟨D, L, v, ys, rfl, hd, hS, h0, h1, q⟩ := h
    refine ⟨_, (pss_one (ps_ret (pe_ix ix_any (pv 1) (pe_cl C__law_draw (hr.mono (by decide)) (by rfl) (pa_cons (pv 0) (pa_cons (pe_callB call_lenA (by rfl) T.m_len (by decide +kernel) (pa_cons (pv 1) pa_nil)) pa_nil))) (fun _ _ => rfl)))), ?_⟩
    walk_at "rds"
    refine rd_lenA (ys := ys) ?_ ?_
    · rcases hS with ⟨a, rfl, h2, h3, h4⟩ | ⟨l, rfl, rfl⟩
      · exact .inl ⟨a, rfl, h4⟩
      · exact .inr ⟨l, rfl, rfl, by rw [← sgs_len]; exact Nat.le_of_lt (small1000 h1)⟩
    walk_at "rds"
    refine ⟨D, L, _, rfl, hd, by omega, by omega, fun k H' hk1 hk2 kp hd' => ?_⟩
    obtain ⟨j, rfl⟩ := Int.eq_ofNat_of_zero_le hk1
    have hj : j < ys.length := by omega
    refine rd_ixA (ys := ys) (j := j) (x := ys[j]) ?_ (List.getElem?_eq_getElem hj) ?_
    · rcases hS with ⟨a, rfl, h2, h3, h4⟩ | ⟨l, rfl, rfl⟩
      · exact .inl ⟨a, rfl, keep_seq kp h2 h3 h4⟩
      · exact .inr ⟨l, rfl, rfl, by rw [← sgs_len]; exact Nat.le_of_lt (small1000 h1)⟩
    · exact q _ _ (List.getElem_mem hj) kp hd'
end
section
variable {P : Program} {w : World} {K : PySem.W.Frag} {mg : Str → Option Value} {base : Heap}
theorem alphabet_nodup : alphabet.Nodup := by decide
def spLetters : Sp := fun vs H Q _ => ∃ (D L : Addr) (n : Int), vs = [.ref D, .int n] ∧ Deal D L H ∧ 2 ≤ n ∧ n ≤ 39 ∧
  ∀ (ls : List Nat) (H' : Hp), 2 ≤ ls.length → (ls.length : Int) ≤ n → ls.Pairwise (· < ·) → (∀ c ∈ ls, c ∈ alphabet) → Keep D L H H' → Deal D L H' → Q (.str (tx ls)) H'
theorem cl_letters (T : Txt K mg) : Cl P w K mg base "_law_letters" ["_law_deal_here", "_law_most"] 2 spLetters := cl_of T.a__law_letters fun f fd F => by
  have C__law_draw := cl_draw (P := P) (w := w) (base := base) T
  refine F.ok sc__law_letters (fun vs H Q E h => ?_) (fun cdv A outer s H vs Q E hr h => ?_)
  · obtain ⟨D, L, v, rfl, _⟩ := h
    rfl
  · obtain ⟨D, L, n, rfl, hd, h0, h1, q⟩ := h
    refine ⟨_, (pss_cons (ps_par (i := 2) (j := 3) (by rfl) sc__law_letters.nd rfl rfl (by decide) rfl rfl (pa_cons (pe_callTy (call_listX rfl) (by rfl) T.m_list (by decide +kernel) (pa_cons (pe_strX [45, 46, 47, 48, 49, 50, 51, 52, 53, 54, 55, 56, 57, 95, 97, 98, 99, 100, 101, 102, 103, 104, 105, 106, 107, 108, 109, 110, 111, 112, 113, 114, 115, 116, 117, 118, 119, 120, 121, 122] (by decide +kernel)) pa_nil)) (pa_cons (pe_lst pa_nil) pa_nil)) (by rfl))
      (Evl.pss_cut (ps_for PassesOwn.never rfl (pi_range1 (by rfl) T.m_range (pa_cons (pe_op op_add pe_int (pe_cl C__law_draw (hr.mono (by decide)) (by rfl) (pa_cons (pv 0) (pa_cons (pe_op op_sub (pv 1) pe_int) pa_nil)))) pa_nil)) (pg_name (i := 4) sc__law_letters.nd rfl (Or.inl rfl))
      (pss_one (ps_expr (pe_bm PySem.F.plainAttrs_list PySem.F.slot_list_append PySem.F.type_list_append mt_append (pv 3) (pa_cons (pe_bm PySem.F.plainAttrs_list PySem.F.slot_list_pop PySem.F.type_list_pop mt_popAt (pv 2) (pa_cons (pe_cl C__law_draw (hr.mono (by decide)) (by rfl) (pa_cons (pv 0) (pa_cons (pe_callB call_lenQ (by rfl) T.m_len (by decide +kernel) (pa_cons (pv 2) pa_nil)) pa_nil))) pa_nil)) pa_nil)))))
      (pss_one (ps_ret (pe_bm PySem.F.plainAttrs_str PySem.F.slot_str_join PySem.F.type_str_join mt_joinX (pe_strX [] (by decide +kernel)) (pa_cons (pe_callB cr_sortedT (by rfl) T.m_sorted (by decide +kernel) (pa_cons (pe_lc (own := [("_law_sign", 5)]) (g := gName 5) (tt := tYes) (by rfl) sc__law_letters.nd (pi_list (pv 3)) (blkOk_by (own := [("_law_sign", 5)]) (N := n__law_letters) (sc := defScope s__law_letters) (by decide +kernel)) (fun _ _ _ _ _ => (pg_name (i := 5) sc__law_letters.nd rfl (Or.inl rfl))) (fun _ _ _ _ _ => pts_nil) (fun _ _ _ _ _ => (pe_callTy call_strS (by rfl) T.m_str (by decide +kernel) (pa_cons (pv 5) pa_nil)))) pa_nil)) pa_nil)))))), ?_⟩
    walk_at "rds"
    refine rd_listX (l := alphabet) (by decide) fun s ns => ?_
    have s1 : Same H (upd H s (.lst (sgs alphabet))) := same_upd ns
    have hs1 : upd H s (.lst (sgs alphabet)) s = some (.lst (sgs alphabet)) := upd_same
    generalize upd H s (.lst (sgs alphabet)) = H1 at *
    walk_at "rds"
    refine ⟨Nat.zero_le _, fun g ng => ?_⟩
    have s2 : Same H1 (upd H1 g (.lst [])) := same_upd ng
    have hg1 : upd H1 g (.lst []) g = some (.lst []) := upd_same
    have hs2 := s2 _ _ hs1
    have hgs : g ≠ s := (ne_of_none hs1 ng).symm
    have ng0 : H g = none := s1.free ng
    generalize upd H1 g (.lst []) = H2 at *
    walk_at "rds"
    have hd2 := hd.keep (s1.trans s2)
    have sH := s1.trans s2
    obtain ⟨cs, m, hD, hL, _⟩ := id hd
    have sD : s ≠ D := (ne_of_none hD ns).symm
    have sL : s ≠ L := (ne_of_none hL ns).symm
    have gD : g ≠ D := (ne_of_none hD ng0).symm
    have gL : g ≠ L := (ne_of_none hL ng0).symm
    clear hD hL
    refine rd_cut (fun σ' H' => ∃ (y : Option V) (fs : List Nat), σ' = [some (.ref D), some (.int n), some (.ref s), some (.ref g), y, none] ∧ 2 ≤ fs.length ∧ (fs.length : Int) ≤ n ∧ fs.Nodup ∧ (∀ c ∈ fs, c ∈ alphabet) ∧ Keep D L H H' ∧ Deal D L H' ∧ H' g = some (.lst (sgs fs))) ?_ ?_
    · walk_at "rds"
      refine ⟨D, L, _, rfl, hd2, by omega, by omega, fun k0 Hk hk01 hk02 kpk hdk => ?_⟩
      walk_at "rds"
      refine ⟨2 + k0, rfl, by omega, by omega, for_range (lo := 0) (n := (2 + k0).toNat) (fun i σ' H' => ∃ (y : Option V) (fs zs : List Nat), σ' = [some (.ref D), some (.int n), some (.ref s), some (.ref g), y, none] ∧ fs.length = i ∧ (zs ++ fs).Perm alphabet ∧ Keep D L H H' ∧ Deal D L H' ∧ H' g = some (.lst (sgs fs)) ∧ H' s = some (.lst (sgs zs)))
        ⟨none, [], alphabet, rfl, rfl, by rw [List.append_nil], (Keep.of_same sH).trans kpk, hdk, kpk _ _ hg1 gD gL, kpk _ _ hs2 sD sL⟩ ?_ ?_⟩
      · rintro i σ' H' hi ⟨y, fs, zs, rfl, hl, hp, kp, hd', hg', hs'⟩
        have hlen : zs.length + fs.length = 40 := by
          have := hp.length_eq
          rw [List.length_append] at this
          exact this
        walk_at "rds"
        refine rd_tyL (SqL.of hg') ?_
        walk_at "rds"
        refine rd_tyL (SqL.of hs') ?_
        walk_at "rds"
        refine rd_lenL (SqL.of hs') ?_
        walk_at "rds"
        rw [sgs_len]
        refine ⟨D, L, _, rfl, hd', by omega, by omega, fun k H3 hk1 hk2 kp3 hd3 => ?_⟩
        obtain ⟨j, rfl⟩ := Int.eq_ofNat_of_zero_le hk1
        have hj : j < zs.length := by omega
        have hs3 := kp3 _ _ hs' sD sL
        have hg3 := kp3 _ _ hg' gD gL
        walk_at "rds"
        refine rd_popAt (i := j) (y := V.str (tx [zs[j]])) hs3 (by omega) (by unfold sgs; rw [List.getElem?_map, List.getElem?_eq_getElem hj]; rfl) ?_
        rw [sgs_erase]
        have hd4 : Deal D L (upd H3 s (.lst (sgs (zs.eraseIdx j)))) := by
          obtain ⟨c1, m1, a1, a2, a3⟩ := hd3
          exact ⟨c1, m1, by rw [upd_ne sD.symm]; exact a1, by rw [upd_ne sL.symm]; exact a2, a3⟩
        have kp4 : Keep D L H (upd H3 s (.lst (sgs (zs.eraseIdx j)))) := (kp.trans kp3).mut ns
        have hg4 : upd H3 s (.lst (sgs (zs.eraseIdx j))) g = some (.lst (sgs fs)) := by rw [upd_ne hgs]; exact hg3
        have hs4 : upd H3 s (.lst (sgs (zs.eraseIdx j))) s = some (.lst (sgs (zs.eraseIdx j))) := upd_same
        generalize upd H3 s (.lst (sgs (zs.eraseIdx j))) = H4 at *
        walk_at "rds"
        refine rd_app hg4 (by rw [sgs_len]; exact small1000 (by omega)) ?_
        refine ⟨_, fs ++ [zs[j]], zs.eraseIdx j, rfl, by rw [List.length_append]; simp; exact hl, ?_, kp4.mut ng0, ?_, ?_, ?_⟩
        · have e1 := eraseIdx_perm (List.getElem?_eq_getElem hj)
          have e2 : (zs.eraseIdx j ++ (fs ++ [zs[j]])).Perm ((zs[j] :: zs.eraseIdx j) ++ fs) := by
            rw [← List.append_assoc]
            exact (List.perm_append_singleton _ _)
          exact e2.trans ((e1.append_right fs).trans hp)
        · obtain ⟨c1, m1, a1, a2, a3⟩ := hd4
          exact ⟨c1, m1, by rw [upd_ne gD.symm]; exact a1, by rw [upd_ne gL.symm]; exact a2, a3⟩
        · rw [upd_same]
          unfold sgs
          rw [List.map_append]
          rfl
        · rw [upd_ne hgs.symm]
          exact hs4
      · rintro σ' H' ⟨y, fs, zs, rfl, hl, hp, kp, hd', hg', hs'⟩
        have nd : (zs ++ fs).Nodup := hp.nodup_iff.mpr alphabet_nodup
        exact ⟨y, fs, rfl, by omega, by omega, (List.nodup_append.mp nd).2.1, fun c hc => hp.mem_iff.mp (List.mem_append_right _ hc), kp, hd', hg'⟩
    · rintro σ' H' ⟨y, fs, rfl, hl2, hl, nd, hmem, kp, hd', hg'⟩
      walk_at "rds"
      refine ⟨_, rfl, ⟨_, SqL.of hg'⟩, fun e ne => lc_list (K := K) (a := g) (xs := sgs fs) (fun i H3 => Same H' H3 ∧ H3 e = some (.lst (sgs (fs.take i)))) ⟨same_upd ne, upd_same⟩ (fun i H3 _ h => SqL.of (h.1 _ _ hg')) ?_ ?_⟩
      · rintro i x H3 hx ⟨s3, he⟩
        obtain ⟨c, hc, rfl⟩ := get_map hx
        have hl' : i < fs.length := (List.getElem?_eq_some_iff.mp hc).1
        walk_at "rds"
        refine ⟨rfl, ?_⟩
        walk_at "rds"
        refine rd_ite (fun _ => ?_) (fun h => by cases h)
        walk_at "rds"
        refine ⟨_, he, by rw [sgs_len, List.length_take]; exact small1000 (by omega), same_mut s3 ne, ?_⟩
        rw [upd_same]
        unfold sgs
        rw [take_snoc _ hc]
      · rintro H3 ⟨s3, he⟩
        rw [sgs_len, List.take_length] at he
        have he' : H3 e = some (.lst ((fs.map fun c => tx [c]).map V.str)) := by rw [he, List.map_map]; rfl
        walk_at "rds"
        refine ⟨e, _, rfl, SqL.of he', fun ys p hp hso np => ?_⟩
        obtain ⟨ks, rfl, hk, hlt⟩ := sorted_signs hp hso nd
        walk_at "rds"
        refine rd_joinX (ls := ks.map fun c => [c]) (SqL.of (by rw [upd_same, List.map_map, List.map_map]; rfl)) ?_ ?_
        · have : (List.map List.length (ks.map fun c => [c])).sum = ks.length := by
            rw [List.map_map]
            have : (List.length ∘ fun c : Nat => [c]) = fun _ => 1 := rfl
            rw [this, List.map_const', List.sum_replicate_nat]
            omega
          rw [this, hk.length_eq]
          omega
        · rw [flat_ones]
          have kp3 : Keep D L H (upd H3 p (.lst ((ks.map fun c => tx [c]).map V.str))) := kp.trans (Keep.of_same (s3.trans (same_upd np)))
          exact q ks _ (by rw [hk.length_eq]; exact hl2) (by rw [hk.length_eq]; exact hl) hlt (fun c hc => hmem c (hk.mem_iff.mp hc)) kp3 (hd'.keep (s3.trans (same_upd np)))
end

section
variable {P : Program} {w : World} {K : PySem.W.Frag} {mg : Str → Option Value} {base : Heap}
def spText : Sp := fun vs H Q _ => ∃ (D L : Addr) (ls : List Nat) (n : Int), vs = [.ref D, .str (tx ls), .int n] ∧ Deal D L H ∧ ls ≠ [] ∧ ls.length ≤ 100 ∧ 0 ≤ n ∧ n ≤ 100 ∧
  ∀ (t : List Nat) (H' : Hp), (∀ c ∈ t, c ∈ ls) → (t.length : Int) ≤ n → Keep D L H H' → Deal D L H' → Q (.str (tx t)) H'
theorem cl_text (T : Txt K mg) : Cl P w K mg base "_law_text" ["_law_deal_here", "_law_letters_here", "_law_most"] 3 spText := cl_of T.a__law_text fun f fd F => by
  have C__law_draw := cl_draw (P := P) (w := w) (base := base) T
  have C__law_pick := cl_pick (P := P) (w := w) (base := base) T
  refine F.ok sc__law_text (fun vs H Q E h => ?_) (fun cdv A outer s H vs Q E hr h => ?_)
  · obtain ⟨D, L, ls, n, rfl, _⟩ := h
    rfl
  · obtain ⟨D, L, ls, n, rfl, hd, hne, hls, h0, h1, q⟩ := h
    have hpos : 0 < ls.length := List.length_pos_iff.mpr hne
    refine ⟨_, (pss_cons (ps_par (i := 3) (j := 4) (by rfl) sc__law_text.nd rfl rfl (by decide) rfl rfl (pa_cons (pe_cl C__law_draw (hr.mono (by decide)) (by rfl) (pa_cons (pv 0) (pa_cons (pe_op op_add (pv 2) pe_int) pa_nil))) (pa_cons (pe_cl C__law_draw (hr.mono (by decide)) (by rfl) (pa_cons (pv 0) (pa_cons pe_int pa_nil))) pa_nil)) (by rfl))
      (pss_cons (ps_set (i := 5) sc__law_text.nd rfl (Or.inl rfl) (pe_ix ix_list (pe_lst (pa_cons (pv 3) (pa_cons (pv 3) (pa_cons pe_int (pa_cons pe_int pa_nil))))) (pv 4) (fun _ _ => rfl)))
      (pss_cons (ps_set (i := 6) sc__law_text.nd rfl (Or.inl rfl) (pe_bm PySem.F.plainAttrs_str PySem.F.slot_str_join PySem.F.type_str_join mt_joinX (pe_strX [] (by decide +kernel)) (pa_cons (pe_lc (own := [("_law_k", 7)]) (g := gName 7) (tt := tYes) (by rfl) sc__law_text.nd (pi_range1 (by rfl) T.m_range (pa_cons (pv 5) pa_nil)) (blkOk_by (own := [("_law_k", 7)]) (N := n__law_text) (sc := defScope s__law_text) (by decide +kernel)) (fun _ _ _ _ _ => (pg_name (i := 7) sc__law_text.nd rfl (Or.inl rfl))) (fun _ _ _ _ _ => pts_nil) (fun _ _ _ _ _ => (pe_cl C__law_pick (hr.mono (by decide)) (by rfl) (pa_cons (pv 0) (pa_cons (pv 1) pa_nil))))) pa_nil)))
      (pss_one (ps_ret (pe_ifExp (pt_cmpR op_lt (pv 4) pe_int (nomark _)) (pv 6) (pe_slice sl_strX (pe_op op_mulT (pv 6) (pv 3)) po_none (po_some (pv 3))))))))), ?_⟩
    walk_at "rds"
    refine ⟨D, L, _, rfl, hd, by omega, by omega, fun k H1 hk1 hk2 kp hd1 => ?_⟩
    walk_at "rds"
    refine ⟨D, L, _, rfl, hd1, by omega, by decide, fun fo H2 hf1 hf2 kp2 hd2 => ?_⟩
    walk_at "rds"
    refine ⟨by show 4 ≤ sizeLine; decide, fun p hp => ?_⟩
    obtain ⟨m, hm, hm0, hm1, hmf⟩ : ∃ m, atI [V.int k, V.int k, V.int 1, V.int 2] fo = some (.int m) ∧ 0 ≤ m ∧ m ≤ 101 ∧ (fo < 2 → m = k) := by
      rcases (show fo = 0 ∨ fo = 1 ∨ fo = 2 ∨ fo = 3 by omega) with rfl | rfl | rfl | rfl
      · exact ⟨k, rfl, hk1, by omega, fun _ => rfl⟩
      · exact ⟨k, rfl, hk1, by omega, fun _ => rfl⟩
      · exact ⟨1, rfl, by omega, by omega, fun h => by omega⟩
      · exact ⟨2, rfl, by omega, by omega, fun h => by omega⟩
    have s3 : Same H2 (upd H2 p (.lst [.int k, .int k, .int 1, .int 2])) := same_upd hp
    walk_at "rds"
    refine rd_ixL (SqL.of upd_same) hm ?_
    walk_at "rds"
    have hd3 := hd2.keep s3
    have kp3 := (kp.trans kp2).trans (Keep.of_same s3)
    generalize upd H2 p (.lst [.int k, .int k, .int 1, .int 2]) = H3 at hd3 kp3 ⊢
    clear s3 hd2 hd1 kp kp2
    refine ⟨m, rfl, by omega, by omega, fun e ne => lc_range (lo := 0) (n := m.toNat) (fun i H4 => ∃ t : List Nat, t.length = i ∧ (∀ c ∈ t, c ∈ ls) ∧ Keep D L H3 H4 ∧ Deal D L H4 ∧ H4 e = some (.lst (sgs t))) ⟨[], rfl, (fun _ h => by cases h), Keep.of_same (same_upd ne), hd3.keep (same_upd ne), upd_same⟩ ?_ ?_⟩
    · rintro i H4 hi ⟨t, ht, hmem, kp4, hd4, he⟩
      obtain ⟨cs, mm, hD, hL, _⟩ := id hd3
      have eD : e ≠ D := (ne_of_none hD ne).symm
      have eL : e ≠ L := (ne_of_none hL ne).symm
      walk_at "rds"
      refine ⟨rfl, ?_⟩
      walk_at "rds"
      refine rd_ite (fun _ => ?_) (fun h => by cases h)
      walk_at "rds"
      refine ⟨D, L, _, sgs ls, rfl, hd4, .inr ⟨ls, rfl, rfl⟩, by rw [sgs_len]; exact hpos, by rw [sgs_len]; omega, fun x H5 hx kp5 hd5 => ?_⟩
      obtain ⟨c, hc, rfl⟩ := List.mem_map.mp hx
      have he4 := kp5 _ _ he eD eL
      refine ⟨_, he4, by rw [sgs_len]; exact small1000 (by omega), t ++ [c], by simp [ht], ?_, (kp4.trans kp5).mut ne, ?_, ?_⟩
      · intro d hd'
        rcases List.mem_append.mp hd' with h | h
        · exact hmem d h
        · rw [List.mem_singleton.mp h]; exact hc
      · obtain ⟨c1, m1, a1, a2, a3⟩ := hd5
        exact ⟨c1, m1, by rw [upd_ne eD.symm]; exact a1, by rw [upd_ne eL.symm]; exact a2, a3⟩
      · rw [upd_same]
        unfold sgs
        rw [List.map_append]
        rfl
    · rintro H4 ⟨t, ht, hmem, kp4, hd4, he⟩
      walk_at "rds"
      refine rd_joinX (ls := t.map fun c => [c]) (SqL.of (by rw [he, List.map_map]; rfl)) ?_ ?_
      · have : (List.map List.length (t.map fun c => [c])).sum = t.length := by
          rw [List.map_map]
          have : (List.length ∘ fun c : Nat => [c]) = fun _ => 1 := rfl
          rw [this, List.map_const', List.sum_replicate_nat]
          omega
        rw [this]
        omega
      · rw [flat_ones]
        walk_at "rds"
        refine rd_ite (fun hf => ?_) (fun hf => ?_)
        · have e1 := hmf (of_decide_eq_true hf)
          walk_at "rds"
          exact q t _ hmem (by omega) (kp3.trans kp4) hd4
        · walk_at "rds"
          obtain ⟨j, rfl⟩ := Int.eq_ofNat_of_zero_le hk1
          have hml : t.length * j ≤ 101 * 101 := Nat.mul_le_mul (by omega) (by omega)
          refine rd_mulX (by omega) (by omega) (by rw [Int.toNat_natCast]; omega) ?_
          walk_at "rds"
          rw [Int.toNat_natCast]
          refine rd_slX (by rw [reps_len, Nat.mul_comm]; exact Nat.le_trans hml (by decide)) ?_
          rw [cutL_take]
          exact q _ _ (fun c hc => hmem c (reps_mem (List.mem_of_mem_take hc))) (by rw [List.length_take]; omega) (kp3.trans kp4) hd4
def spValue : Sp := fun vs H Q _ => ∃ D L : Addr, vs = [.ref D] ∧ Deal D L H ∧ ∀ (v : Int) (H' : Hp), 0 ≤ v → v < 10 ^ 18 → Keep D L H H' → Deal D L H' → Q (.int v) H'
theorem cl_value (T : Txt K mg) : Cl P w K mg base "_law_value" ["_law_deal_here"] 2 spValue := cl_of T.a__law_value fun f fd F => by
  have C__law_draw := cl_draw (P := P) (w := w) (base := base) T
  refine F.ok sc__law_value (fun vs H Q E h => ?_) (fun cdv A outer s H vs Q E hr h => ?_)
  · obtain ⟨D, L, rfl, _⟩ := h
    rfl
  · obtain ⟨D, L, rfl, hd, q⟩ := h
    refine ⟨_, (pss_cons (ps_set (i := 1) sc__law_value.nd rfl (Or.inl rfl) (pe_cl C__law_draw (hr.mono (by decide)) (by rfl) (pa_cons (pv 0) (pa_cons pe_int pa_nil))))
      (pss_cons (ps_if (pt_cmpR op_eq (pv 1) pe_int (nomark _))
      (pss_one (ps_ret (pe_op op_sub (pe_op op_sub (pe_op op_pow pe_int pe_int) pe_int) (pe_cl C__law_draw (hr.mono (by decide)) (by rfl) (pa_cons (pv 0) (pa_cons pe_int pa_nil))))))
      pss_nil)
      (pss_one (ps_ret (pe_ix ix_list (pe_lst (pa_cons (pe_cl C__law_draw (hr.mono (by decide)) (by rfl) (pa_cons (pv 0) (pa_cons pe_int pa_nil))) (pa_cons (pe_cl C__law_draw (hr.mono (by decide)) (by rfl) (pa_cons (pv 0) (pa_cons pe_int pa_nil))) pa_nil))) (pe_callTy call_intB (by rfl) T.m_int (by decide +kernel) (pa_cons (pe_cmpR op_eq (pv 1) pe_int (nomark _)) pa_nil)) (fun _ _ => rfl)))))), ?_⟩
    walk_at "rds"
    refine ⟨D, L, _, rfl, hd, by decide, by decide, fun k H1 hk1 hk2 kp hd1 => ?_⟩
    walk_at "rds"
    have e5 : decide (V.int k = V.int 5) = decide (k = 5) := by
      rw [decide_eq_decide]
      exact ⟨fun h => V.int.inj h, fun h => by rw [h]⟩
    rw [e5]
    refine rd_ite (fun h5 => ?_) (fun h5 => ?_)
    · walk_at "rds"
      refine rd_I ⟨by decide, by decide, by decide⟩ ?_
      walk_at "rds"
      refine ⟨D, L, _, rfl, hd1, by decide, by decide, fun j H2 hj1 hj2 kp2 hd2 => ?_⟩
      walk_at "rds"
      have e18 : ((10 : Int) ^ (18 : Int).toNat) = 10 ^ 18 := rfl
      exact q _ _ (by rw [e18]; omega) (by rw [e18]; omega) (kp.trans kp2) hd2
    · walk_at "rds"
      refine ⟨D, L, _, rfl, hd1, by decide, by decide, fun j H2 hj1 hj2 kp2 hd2 => ?_⟩
      walk_at "rds"
      refine ⟨D, L, _, rfl, hd2, by decide, by decide, fun i H3 hi1 hi2 kp3 hd3 => ?_⟩
      walk_at "rds"
      refine ⟨by show 2 ≤ sizeLine; decide, fun p hp => ?_⟩
      walk_at "rds"
      have s4 : Same H3 (upd H3 p (.lst [.int j, .int i])) := same_upd hp
      have kp4 := ((kp.trans kp2).trans kp3).trans (Keep.of_same s4)
      have hd4 := hd3.keep s4
      have hcases : ∀ b : Bool, ∃ v : Int, atI [V.int j, V.int i] (if b = true then 1 else 0) = some (.int v) ∧ 0 ≤ v ∧ v < 10 ^ 18 := fun b => by
        cases b
        · exact ⟨j, rfl, hj1, by omega⟩
        · exact ⟨i, rfl, hi1, by omega⟩
      obtain ⟨v, hv, hv0, hv1⟩ := hcases (decide (V.int k = V.int 4))
      refine rd_ixL (SqL.of upd_same) hv ?_
      exact q v _ hv0 hv1 kp4 hd4
end

section
variable {P : Program} {w : World} {K : PySem.W.Frag} {mg : Str → Option Value} {base : Heap}
def spPut (K : PySem.W.Frag) (C CT CV : Addr) : Sp := fun vs H Q E => ∃ (a d : Addr) (ls : List Nat) (m : Tab) (x y : V), vs = [.ref a, x, y] ∧ St C H a d ls m ∧ TxtOr K H x ∧ NumOr K H y ∧ m.length ≤ 1000 ∧
  ((isTxtB ls x = false ∧ Err1 CT "value" x H E) ∨ (isTxtB ls x = true ∧ okV y = false ∧ Err1 CV "value" y H E))
theorem clx_put (T : Txt K mg) : ClX P w K mg base "_law_put" ["_law_store", "_law_key", "_law_value_here"] 5 (spPut K (SC mg) (CT mg) (CV mg)) := clX_of T.a__law_put fun f fd F => by
  have C_Store___setitem__ := met_set (P := P) (w := w) (base := base) T
  refine F.okX sc__law_put (fun vs H Q E h => ?_) (fun cdv A outer s H vs Q E hr h => ?_)
  · obtain ⟨a, d, ls, m, x, y, rfl, _⟩ := h
    rfl
  · obtain ⟨a, d, ls, m, x, y, rfl, hS, hx, hy, hm, q⟩ := h
    refine ⟨_, (pss_one (ps_asg (pv 2) (pg_sub (pv 0) (pv 1) (set_GX C_Store___setitem__ T.q_Store hr (by decide) (takes_of rfl rfl rfl rfl))))), ?_⟩
    obtain ⟨dx, ho⟩ := hS.o
    walk_at "rds"
    refine ⟨a, _, _, rfl, ho, a, d, ls, m, x, y, rfl, hS, hx, hy, hm, fun hb => ?_, fun hb hc => ?_, fun k v e1 e2 h1 h2 => ?_⟩
    · rcases q with ⟨_, q⟩ | ⟨h, _⟩
      · exact q
      · rw [hb] at h
        cases h
    · rcases q with ⟨h, _⟩ | ⟨_, _, q⟩
      · rw [hb] at h
        cases h
      · exact q
    · rcases q with ⟨h, _⟩ | ⟨_, h, _⟩
      · rw [h1] at h
        cases h
      · rw [e2] at h
        have := of_decide_eq_false h
        omega
def spGot (K : PySem.W.Frag) (C CK : Addr) : Sp := fun vs H Q E => ∃ (a d : Addr) (ls : List Nat) (m : Tab) (x : V), vs = [.ref a, x] ∧ St C H a d ls m ∧ TxtOr K H x ∧ inB ls m x = false ∧ Err1 CK "key" x H E
theorem clx_got (T : Txt K mg) : ClX P w K mg base "_law_got" ["_law_store", "_law_key"] 6 (spGot K (SC mg) (CK mg)) := clX_of T.a__law_got fun f fd F => by
  have C_Store___getitem__ := met_get (P := P) (w := w) (base := base) T
  refine F.okX sc__law_got (fun vs H Q E h => ?_) (fun cdv A outer s H vs Q E hr h => ?_)
  · obtain ⟨a, d, ls, m, x, rfl, _⟩ := h
    rfl
  · obtain ⟨a, d, ls, m, x, rfl, hS, hx, hb, q⟩ := h
    refine ⟨_, (pss_one (ps_ret (pe_getG C_Store___getitem__ hr (by decide) (passes_call (takes_of rfl rfl rfl rfl) fun _ _ _ _ h => h) (pv 0) (pv 1)))), ?_⟩
    obtain ⟨dx, ho⟩ := hS.o
    walk_at "rds"
    exact ⟨a, dx, _, rfl, ho, a, d, ls, m, x, rfl, hS, hx, fun key v e1 e2 => absurd (hb.symm.trans e2) (by simp), fun _ d' H1 s1 e1 => q d' H1 s1 e1⟩
end
section
/-- what _law_refused makes of an error -/
def Caught (mg : Str → Option Value) (Q : VK) : XK := fun cls d H' =>
  (∃ x dd, cls = .ref (CT mg) ∧ d = some dd ∧ H' dd = some (.xd [("value", x)]) ∧ ∀ p G, Same H' G → G p = none → Q (.ref p) (upd G p (.tup [.str (tx [116, 101, 120, 116]), x]))) ∨
  (∃ x dd, cls = .ref (CV mg) ∧ d = some dd ∧ H' dd = some (.xd [("value", x)]) ∧ ∀ p G, Same H' G → G p = none → Q (.ref p) (upd G p (.tup [.str (tx [118, 97, 108, 117, 101]), x]))) ∨
  (cls = .ref (CL mg) ∧ d = none ∧ ∀ p G, Same H' G → G p = none → Q (.ref p) (upd G p (.tup [.str (tx [108, 101, 116, 116, 101, 114, 115])]))) ∨
  (∃ x dd, cls = .ref (CK mg) ∧ d = some dd ∧ H' dd = some (.xd [("key", x)]) ∧ ∀ p G, Same H' G → G p = none → Q (.ref p) (upd G p (.tup [.str (tx [107, 101, 121]), x])))
def TTref (mg : Str → Option Value) : (XK → Hp → VK → Prop) → Hp → VK → Prop := fun tl H Q => tl (Caught mg Q) H fun _ H' => ∃ v, (some (some V.non) : Option (Option V)) = some (some v) ∧ Q v H'
theorem gives_law_refused {X : Cx} (T : Txt X.K X.mg) (Z : Xt X.K X.mg) {g : Addr} {cdg : Value} {q : Str} :
    LamX.GivesTo X n__law_refused "_law_refused" (defScope s__law_refused) g cdg (defBody s__law_refused) "_law_work" q (TTref X.mg) := by
  intro f c' s H Q tl act hc h
  refine ⟨_, (pss_cons (ps_set (i := 1) sc__law_refused.nd rfl (Or.inl rfl) pe_non)
      (pss_cons (ps_try_hds rfl rfl sc__law_refused.nd takes0 (fun W pn xe tk _ => (pss_one (ps_expr (pe_tact act tk)))) (.as (i := 2) rfl rfl ⟨rfl, by decide, .inl T.e_UnderError.1⟩ (fun a oe cls d pn hz hf => (pss_one (ps_if (PW.pt (pw_and (pt_val (pe_callB (call_isC hz hf) (by rfl) T.m_isinstance (by decide +kernel) (pa_cons (pv 2) (pa_cons (pe_cls T.e_NoText.1 (by rfl)) pa_nil)))) (pw_and1 (pt_not (pt_val (pe_callB (call_isC hz hf) (by rfl) T.m_isinstance (by decide +kernel) (pa_cons (pv 2) (pa_cons (pe_tup (pa_cons (pe_cls T.e_NoValue.1 (by rfl)) (pa_cons (pe_cls T.e_InvalidLetters.1 (by rfl)) pa_nil))) pa_nil))))))))
      (pss_one (ps_set (i := 1) sc__law_refused.nd rfl (Or.inl rfl) (pe_tup (pa_cons (pe_strX [116, 101, 120, 116] (by decide +kernel)) (pa_cons (pe_xf T.e_NoText.2.1.xf T.e_NoText.2.2.1 hz hf (pv 2)) pa_nil)))))
      (pss_one (ps_if (PW.pt (pw_and (pt_val (pe_callB (call_isC hz hf) (by rfl) T.m_isinstance (by decide +kernel) (pa_cons (pv 2) (pa_cons (pe_cls T.e_NoValue.1 (by rfl)) pa_nil)))) (pw_and1 (pt_not (pt_val (pe_callB (call_isC hz hf) (by rfl) T.m_isinstance (by decide +kernel) (pa_cons (pv 2) (pa_cons (pe_tup (pa_cons (pe_cls T.e_NoText.1 (by rfl)) (pa_cons (pe_cls T.e_InvalidLetters.1 (by rfl)) pa_nil))) pa_nil))))))))
      (pss_one (ps_set (i := 1) sc__law_refused.nd rfl (Or.inl rfl) (pe_tup (pa_cons (pe_strX [118, 97, 108, 117, 101] (by decide +kernel)) (pa_cons (pe_xf T.e_NoValue.2.1.xf T.e_NoValue.2.2.1 hz hf (pv 2)) pa_nil)))))
      (pss_one (ps_if (PW.pt (pw_and (pt_val (pe_callB (call_isC hz hf) (by rfl) T.m_isinstance (by decide +kernel) (pa_cons (pv 2) (pa_cons (pe_cls T.e_InvalidLetters.1 (by rfl)) pa_nil)))) (pw_and1 (pt_not (pt_val (pe_callB (call_isC hz hf) (by rfl) T.m_isinstance (by decide +kernel) (pa_cons (pv 2) (pa_cons (pe_tup (pa_cons (pe_cls T.e_NoText.1 (by rfl)) (pa_cons (pe_cls T.e_NoValue.1 (by rfl)) pa_nil))) pa_nil))))))))
      (pss_one (ps_set (i := 1) sc__law_refused.nd rfl (Or.inl rfl) (pe_tup (pa_cons (pe_strX [108, 101, 116, 116, 101, 114, 115] (by decide +kernel)) pa_nil))))
      pss_nil))))))) (.as (i := 2) rfl rfl ⟨rfl, by decide, .inl T.e_NoKey.1⟩ (fun a oe cls d pn hz hf => (pss_one (ps_set (i := 1) sc__law_refused.nd rfl (Or.inl rfl) (pe_tup (pa_cons (pe_strX [107, 101, 121] (by decide +kernel)) (pa_cons (pe_xf T.e_NoKey.2.1.xf T.e_NoKey.2.2.1 hz hf (pv 2)) pa_nil)))))) .nil)))
      (pss_one (ps_ret (pv 1))))), ?_⟩
  walk_at "rds"
  refine ⟨Caught X.mg Q, fun cls d σ' H' hl hc' => ?_, rfl, hc, ?_⟩
  · obtain ⟨v0, v1, v2, rfl⟩ : ∃ v0 v1 v2, σ' = [v0, v1, v2] := by
      match σ', hl with
      | [v0, v1, v2], _ => exact ⟨v0, v1, v2, rfl⟩
    rcases hc' with ⟨x, dd, rfl, rfl, e, q⟩ | ⟨x, dd, rfl, rfl, e, q⟩ | ⟨rfl, rfl, q⟩ | ⟨x, dd, rfl, rfl, e, q⟩
    · refine ⟨true, Z.x_NoText, fun _ a ha => ?_, fun h => Bool.noConfusion h⟩
      have hf : ∀ G : Hp, Same H' G → ∀ d', some dd = some d' → ∃ fs, G d' = some (.xd fs) := fun G s d' h => by
        cases h
        exact ⟨_, s _ _ e⟩
      unfold clause
      walk_at "rds"
      refine rd_isC1 T.e_NoText.2.1.is (hf _ (same_refl _)) Z.k_NoText_NoText ?_
      walk_at "rds"
      refine rd_ite (fun _ => ?_) (fun h => by cases h)
      walk_at "rds"
      refine ⟨by show 2 ≤ sizeLine; decide, fun p hp => ?_⟩
      walk_at "rds"
      have s1 : Same H' (upd H' p (.tup [.ref (ca X.mg "NoValue"), .ref (ca X.mg "InvalidLetters")])) := same_upd hp
      refine rd_isC2 T.e_NoText.2.1.is (hf _ s1) upd_same Z.k_NoText_NoValue Z.k_NoText_InvalidLetters ?_
      walk_at "rds"
      refine rd_ite (fun _ => ?_) (fun h => by cases h)
      walk_at "rds"
      refine ⟨_, rfl, rfl, rfl, dd, _, x, rfl, s1 _ _ e, rfl, ?_⟩
      walk_at "rds"
      refine ⟨by show 2 ≤ sizeLine; decide, fun p2 hp2 => ?_⟩
      walk_at "rds"
      exact q p2 _ s1 hp2
    · refine ⟨true, Z.x_NoValue, fun _ a ha => ?_, fun h => Bool.noConfusion h⟩
      have hf : ∀ G : Hp, Same H' G → ∀ d', some dd = some d' → ∃ fs, G d' = some (.xd fs) := fun G s d' h => by
        cases h
        exact ⟨_, s _ _ e⟩
      unfold clause
      walk_at "rds"
      refine rd_isC1 T.e_NoValue.2.1.is (hf _ (same_refl _)) Z.k_NoValue_NoText ?_
      walk_at "rds"
      refine rd_ite (fun h => by cases h) (fun _ => ?_)
      walk_at "rds"
      refine rd_ite (fun h => by cases h) (fun _ => ?_)
      walk_at "rds"
      refine rd_isC1 T.e_NoValue.2.1.is (hf _ (same_refl _)) Z.k_NoValue_NoValue ?_
      walk_at "rds"
      refine rd_ite (fun _ => ?_) (fun h => by cases h)
      walk_at "rds"
      refine ⟨by show 2 ≤ sizeLine; decide, fun p hp => ?_⟩
      walk_at "rds"
      have s1 : Same H' (upd H' p (.tup [.ref (ca X.mg "NoText"), .ref (ca X.mg "InvalidLetters")])) := same_upd hp
      refine rd_isC2 T.e_NoValue.2.1.is (hf _ s1) upd_same Z.k_NoValue_NoText Z.k_NoValue_InvalidLetters ?_
      walk_at "rds"
      refine rd_ite (fun _ => ?_) (fun h => by cases h)
      walk_at "rds"
      refine ⟨_, rfl, rfl, rfl, dd, _, x, rfl, s1 _ _ e, rfl, ?_⟩
      walk_at "rds"
      refine ⟨by show 2 ≤ sizeLine; decide, fun p2 hp2 => ?_⟩
      walk_at "rds"
      exact q p2 _ s1 hp2
    · refine ⟨true, Z.x_InvalidLetters, fun _ a ha => ?_, fun h => Bool.noConfusion h⟩
      have hf : ∀ G : Hp, Same H' G → ∀ d', (none : Option Addr) = some d' → ∃ fs, G d' = some (.xd fs) := fun G s d' h => by cases h
      unfold clause
      walk_at "rds"
      refine rd_isC1 T.e_InvalidLetters.2.1.is (hf _ (same_refl _)) Z.k_InvalidLetters_NoText ?_
      walk_at "rds"
      refine rd_ite (fun h => by cases h) (fun _ => ?_)
      walk_at "rds"
      refine rd_ite (fun h => by cases h) (fun _ => ?_)
      walk_at "rds"
      refine rd_isC1 T.e_InvalidLetters.2.1.is (hf _ (same_refl _)) Z.k_InvalidLetters_NoValue ?_
      walk_at "rds"
      refine rd_ite (fun h => by cases h) (fun _ => ?_)
      walk_at "rds"
      refine rd_ite (fun h => by cases h) (fun _ => ?_)
      walk_at "rds"
      refine rd_isC1 T.e_InvalidLetters.2.1.is (hf _ (same_refl _)) Z.k_InvalidLetters_InvalidLetters ?_
      walk_at "rds"
      refine rd_ite (fun _ => ?_) (fun h => by cases h)
      walk_at "rds"
      refine ⟨by show 2 ≤ sizeLine; decide, fun p hp => ?_⟩
      walk_at "rds"
      have s1 : Same H' (upd H' p (.tup [.ref (ca X.mg "NoText"), .ref (ca X.mg "NoValue")])) := same_upd hp
      refine rd_isC2 T.e_InvalidLetters.2.1.is (hf _ s1) upd_same Z.k_InvalidLetters_NoText Z.k_InvalidLetters_NoValue ?_
      walk_at "rds"
      refine rd_ite (fun _ => ?_) (fun h => by cases h)
      walk_at "rds"
      refine ⟨by show 1 ≤ sizeLine; decide, fun p2 hp2 => ?_⟩
      walk_at "rds"
      exact q p2 _ s1 hp2
    · refine ⟨false, Z.x_NoKey, fun h => Bool.noConfusion h, fun _ => ⟨true, T.e_NoKey.2.1.ex, fun _ a ha => ?_, fun h => Bool.noConfusion h⟩⟩
      unfold clause
      walk_at "rds"
      refine ⟨_, rfl, rfl, rfl, dd, _, x, rfl, e, rfl, ?_⟩
      walk_at "rds"
      refine ⟨by show 2 ≤ sizeLine; decide, fun p2 hp2 => ?_⟩
      walk_at "rds"
      exact q p2 _ (same_refl _) hp2
  · exact h
end
section
variable {P : Program} {w : World} {K : PySem.W.Frag} {mg : Str → Option Value} {base : Heap}
/-- all but the deal and the tables stay -/
def KT (D L : Addr) (H H' : Hp) : Prop := ∀ b o, H b = some o → b ≠ D → b ≠ L → (∀ ps, o ≠ .tbl ps) → H' b = some o
theorem KT.trans {D L : Addr} {H H1 H2 : Hp} (a : KT D L H H1) (b : KT D L H1 H2) : KT D L H H2 := fun c o h h1 h2 n => b c o (a c o h h1 h2 n) h1 h2 n
theorem KT.of {D L : Addr} {H H' : Hp} (s : Same H H') : KT D L H H' := fun b o h _ _ _ => s b o h
theorem KT.keep {D L : Addr} {H H' : Hp} (s : Keep D L H H') : KT D L H H' := fun b o h h1 h2 _ => s b o h h1 h2
theorem KT.ext {D L : Addr} {H H' : Hp} (s : ExtN H H') : KT D L H H' := fun b o h _ _ n => s b o h n
theorem new_facts {D L p : Addr} {H : Hp} {o : HO} (hd : Deal D L H) (n : H p = none) : Same H (upd H p o) ∧ (upd H p o) p = some o ∧ Deal D L (upd H p o) ∧ p ≠ D ∧ p ≠ L :=
  ⟨same_upd n, upd_same, hd.keep (same_upd n), (hd.new n).1, (hd.new n).2⟩
theorem tabs_keep {D L : Addr} {H H' : Hp} {T : List (Addr × Str)} (hD : Deal D L H) (k : Keep D L H H') (h : LamX.Tabs T H) : LamX.Tabs T H' := by
  obtain ⟨cs, m, h1, h2, _⟩ := hD
  have st : ∀ {b o}, H b = some o → (∀ xs, o ≠ .lst xs) → H' b = some o := fun {b o} e n => k b o e (fun z => by
    rw [z, h1] at e
    exact n _ (Option.some.inj e).symm) fun z => by
    rw [z, h2] at e
    exact n _ (Option.some.inj e).symm
  intro p hp
  obtain ⟨ps, e1, e2, e3⟩ := h p hp
  refine ⟨ps, st e1 (fun _ z => by cases z), e2, fun pos cv hc => ?_⟩
  obtain ⟨c, rfl, hc'⟩ := e3 pos cv hc
  exact ⟨c, rfl, st hc' fun _ z => by unfold LamX.CodeO at z; cases z⟩
theorem tabs_same {H H' : Hp} {T : List (Addr × Str)} (s : Same H H') (h : LamX.Tabs T H) : LamX.Tabs T H' := h.ext s
def strange : List Nat := [97, 98, 99, 100, 120, 121, 122, 48, 46]
/-- a value that is no text over the letters -/
def OddKey (H : Hp) (D L : Addr) (ls : List Nat) (x : V) : Prop :=
  x = .non ∨ x = .int 0 ∨ x = .bl true ∨ (∃ t, x = .str (tx t) ∧ t.length ≤ 10 ∧ (∀ c ∈ t, c < 1000) ∧ consB ls t = false) ∨ (∃ p, x = .ref p ∧ p ≠ D ∧ p ≠ L ∧ H p = some (.lst [.str (tx ls)])) ∨ ∃ p c, x = .ref p ∧ p ≠ D ∧ p ≠ L ∧ H p = some (.tup [.str (tx [c])]) ∧ c < 1000
theorem OddKey.kt {H H' : Hp} {D L : Addr} {ls : List Nat} {x : V} (h : OddKey H D L ls x) (k : KT D L H H') : OddKey H' D L ls x := by
  rcases h with h | h | h | h | ⟨p, e, h1, h2, h⟩ | ⟨p, c, e, h1, h2, h, hc⟩
  · exact .inl h
  · exact .inr (.inl h)
  · exact .inr (.inr (.inl h))
  · exact .inr (.inr (.inr (.inl h)))
  · exact .inr (.inr (.inr (.inr (.inl ⟨p, e, h1, h2, k _ _ h h1 h2 fun _ z => by cases z⟩))))
  · exact .inr (.inr (.inr (.inr (.inr ⟨p, c, e, h1, h2, k _ _ h h1 h2 (fun _ z => by cases z), hc⟩))))
theorem OddKey.txt {H : Hp} {D L : Addr} {ls : List Nat} {x : V} (h : OddKey H D L ls x) : TxtOr K H x := by
  rcases h with rfl | rfl | rfl | ⟨t, rfl, h, _⟩ | ⟨p, rfl, _, _, h⟩ | ⟨p, c, rfl, _, _, h, _⟩
  · exact .inr ⟨⟨_, .base .non, kit_ty (by decide +kernel)⟩, fun z e => by cases e⟩
  · exact .inr ⟨⟨_, .base (.int 0), kit_ty (by decide +kernel)⟩, fun z e => by cases e⟩
  · exact .inr ⟨⟨_, .base (.bl true), kit_ty (by decide +kernel)⟩, fun z e => by cases e⟩
  · exact .inl ⟨t, rfl, by omega⟩
  · exact .inr ⟨⟨_, .base (.lst h), kit_ty (by decide +kernel)⟩, fun z e => by cases e⟩
  · exact .inr ⟨⟨_, .base (.tup h), kit_ty (by decide +kernel)⟩, fun z e => by cases e⟩
theorem OddKey.no {H : Hp} {D L : Addr} {ls : List Nat} {x : V} (h : OddKey H D L ls x) : isTxtB ls x = false := by
  rcases h with rfl | rfl | rfl | ⟨t, rfl, _, _, h⟩ | ⟨p, rfl, _⟩ | ⟨p, c, rfl, _⟩
  · rfl
  · rfl
  · rfl
  · show consB ls (tx t).cps.toList = false
    rw [tx_cps]
    exact h
  · rfl
  · rfl
theorem OddKey.dp {H : Hp} {D L : Addr} {ls : List Nat} {x : V} (h : OddKey H D L ls x) (hl : ls.length ≤ 5) (ha : ∀ c ∈ ls, c < 1000) : ∃ d, Dp K H x d ∧ GoodZ 1 100 d ∧ d.canLay0 = true := by
  rcases h with rfl | rfl | rfl | ⟨t, rfl, h, hc, _⟩ | ⟨p, rfl, _, _, h⟩ | ⟨p, c, rfl, _, _, h, hc⟩
  · exact ⟨_, .non, non_good.mono (by decide) (by decide), rfl⟩
  · exact ⟨_, .int 0, (int_good (by decide)).mono (by decide) (by decide), rfl⟩
  · exact ⟨_, .bl true, (bool_good true).mono (by decide) (by decide), rfl⟩
  · exact ⟨_, .str _, (str_good hc).mono (by decide) (by omega), lay_str hc⟩
  · exact ⟨_, .lst (SqL.of h) (.cons (.str _) .nil), (list_good (one_mem (str_good ha))).mono (by decide) (by simp; omega), lay_list (one_mem (lay_str ha))⟩
  · exact ⟨_, .tup (SqT.of h) (.cons (.str _) .nil), (tup_good (one_mem (str_good (l := [c]) (fun e he => by rw [List.mem_singleton.mp he]; exact hc)))).mono (by decide) (by simp), lay_tup (one_mem (lay_str (one_mem hc)))⟩
/-- a value that is no integer from 0 -/
def OddVal (H : Hp) (D L : Addr) (x : V) : Prop :=
  (∃ v : Int, x = .int v ∧ v < 0 ∧ v.natAbs < 2 ^ 60) ∨ x = .non ∨ (∃ b, x = .bl b) ∨ (∃ t, x = .str (tx t) ∧ t.length ≤ 1 ∧ (∀ c ∈ t, c < 1000)) ∨
  (∃ p vs, x = .ref p ∧ p ≠ D ∧ p ≠ L ∧ H p = some (.lst vs) ∧ (vs = [] ∨ vs = [.int 0])) ∨ ∃ p, x = .ref p ∧ p ≠ D ∧ p ≠ L ∧ H p = some (.tup [.int 1])
theorem OddVal.kt {H H' : Hp} {D L : Addr} {x : V} (h : OddVal H D L x) (k : KT D L H H') : OddVal H' D L x := by
  rcases h with h | h | h | h | ⟨p, vs, e, h1, h2, h, hv⟩ | ⟨p, e, h1, h2, h⟩
  · exact .inl h
  · exact .inr (.inl h)
  · exact .inr (.inr (.inl h))
  · exact .inr (.inr (.inr (.inl h)))
  · exact .inr (.inr (.inr (.inr (.inl ⟨p, vs, e, h1, h2, k _ _ h h1 h2 (fun _ z => by cases z), hv⟩))))
  · exact .inr (.inr (.inr (.inr (.inr ⟨p, e, h1, h2, k _ _ h h1 h2 fun _ z => by cases z⟩))))
theorem OddVal.num {H : Hp} {D L : Addr} {x : V} (h : OddVal H D L x) : NumOr K H x := by
  rcases h with ⟨v, rfl, _⟩ | rfl | ⟨b, rfl⟩ | ⟨t, rfl, _⟩ | ⟨p, vs, rfl, _, _, h, _⟩ | ⟨p, rfl, _, _, h⟩
  · exact .inl ⟨v, rfl⟩
  · exact .inr (.inr ⟨⟨_, .base .non, by decide +kernel⟩, fun z e => by cases e⟩)
  · exact .inr (.inl ⟨b, rfl⟩)
  · exact .inr (.inr ⟨⟨_, .base (.str _), by decide +kernel⟩, fun z e => by cases e⟩)
  · exact .inr (.inr ⟨⟨_, .base (.lst h), by decide +kernel⟩, fun z e => by cases e⟩)
  · exact .inr (.inr ⟨⟨_, .base (.tup h), by decide +kernel⟩, fun z e => by cases e⟩)
theorem OddVal.no {H : Hp} {D L : Addr} {x : V} (h : OddVal H D L x) : okV x = false := by
  rcases h with ⟨v, rfl, h, _⟩ | rfl | ⟨b, rfl⟩ | ⟨t, rfl, _⟩ | ⟨p, vs, rfl, _⟩ | ⟨p, rfl, _⟩
  · exact decide_eq_false (by omega)
  · rfl
  · rfl
  · rfl
  · rfl
  · rfl
theorem OddVal.dp {H : Hp} {D L : Addr} {x : V} (h : OddVal H D L x) : ∃ d, Dp K H x d ∧ GoodZ 1 100 d ∧ d.canLay0 = true := by
  rcases h with ⟨v, rfl, _, hv⟩ | rfl | ⟨b, rfl⟩ | ⟨t, rfl, h, hc⟩ | ⟨p, vs, rfl, _, _, h, hv⟩ | ⟨p, rfl, _, _, h⟩
  · exact ⟨_, .int v, (int_good hv).mono (by decide) (by decide), rfl⟩
  · exact ⟨_, .non, non_good.mono (by decide) (by decide), rfl⟩
  · exact ⟨_, .bl b, (bool_good b).mono (by decide) (by decide), rfl⟩
  · exact ⟨_, .str _, (str_good hc).mono (by decide) (by omega), lay_str hc⟩
  · rcases hv with rfl | rfl
    · exact ⟨_, .lst (SqL.of h) .nil, (list_good (z := 0) (w := 0) fun d hd => by cases hd).mono (by decide) (by decide), rfl⟩
    · exact ⟨_, .lst (SqL.of h) (.cons (.int 0) .nil), (list_good (one_mem (int_good (by decide)))).mono (by decide) (by decide), rfl⟩
  · exact ⟨_, .tup (SqT.of h) (.cons (.int 1) .nil), (tup_good (one_mem (int_good (by decide)))).mono (by decide) (by decide), rfl⟩
def spOddV : Sp := fun vs H Q _ => ∃ D L : Addr, vs = [.ref D] ∧ Deal D L H ∧ ∀ (x : V) (H' : Hp), OddVal H' D L x → Keep D L H H' → Deal D L H' → Q x H'
theorem cl_oddv (T : Txt K mg) : Cl P w K mg base "_law_odd_value" ["_law_deal_here"] 3 spOddV := cl_of T.a__law_odd_value fun f fd F => by
  have C__law_pick := cl_pick (P := P) (w := w) (base := base) T
  refine F.ok sc__law_odd_value (fun vs H Q E h => ?_) (fun cdv A outer s H vs Q E hr h => ?_)
  · obtain ⟨D, L, rfl, _⟩ := h
    rfl
  · obtain ⟨D, L, rfl, hD, q⟩ := h
    refine ⟨_, (pss_one (ps_ret (pe_cl C__law_pick (hr.mono (by decide)) (by rfl) (pa_cons (pv 0) (pa_cons (pe_lst (pa_cons (pe_un un_neg pe_int) (pa_cons (pe_op op_sub pe_int (pe_op op_pow pe_int pe_int)) (pa_cons pe_non (pa_cons pe_bl (pa_cons pe_bl (pa_cons (pe_strX [48] (by decide +kernel)) (pa_cons (pe_strX [] (by decide +kernel)) (pa_cons (pe_lst pa_nil) (pa_cons (pe_tup (pa_cons pe_int pa_nil)) (pa_cons (pe_lst (pa_cons pe_int pa_nil)) pa_nil))))))))))) pa_nil))))), ?_⟩
    walk_at "rds"
    refine ⟨10, 17, rfl, rfl, ⟨by decide, by decide, by decide⟩, ?_⟩
    walk_at "rds"
    refine ⟨by decide, fun p1 n1 => ?_⟩
    obtain ⟨s1, e1, hD1, d1, l1⟩ := new_facts (o := .lst []) hD n1
    generalize upd H p1 (.lst []) = H1 at *
    walk_at "rds"
    refine ⟨by show 1 ≤ sizeLine; decide, fun p2 n2 => ?_⟩
    obtain ⟨s2, e2, hD2, d2, l2⟩ := new_facts (o := .tup [.int 1]) hD1 n2
    generalize upd H1 p2 (.tup [.int 1]) = H2 at *
    walk_at "rds"
    refine ⟨by show 1 ≤ sizeLine; decide, fun p3 n3 => ?_⟩
    obtain ⟨s3, e3, hD3, d3, l3⟩ := new_facts (o := .lst [.int 0]) hD2 n3
    generalize upd H2 p3 (.lst [.int 0]) = H3 at *
    walk_at "rds"
    refine ⟨by show 10 ≤ sizeLine; decide, fun p4 n4 => ?_⟩
    obtain ⟨s4, e4, hD4, d4, l4⟩ := new_facts (o := .lst [.int (-1), .int (0 - 10 ^ Int.toNat 17), .non, .bl true, .bl false, .str (tx [48]), .str (tx []), .ref p1, .ref p2, .ref p3]) hD3 n4
    have e1' := s4 _ _ (s3 _ _ (s2 _ _ e1))
    have e2' := s4 _ _ (s3 _ _ e2)
    have e3' := s4 _ _ e3
    have sA := same_trans (same_trans (same_trans s1 s2) s3) s4
    generalize upd H3 p4 (.lst [.int (-1), .int (0 - 10 ^ Int.toNat 17), .non, .bl true, .bl false, .str (tx [48]), .str (tx []), .ref p1, .ref p2, .ref p3]) = H4 at *
    walk_at "rds"
    refine ⟨D, L, .ref p4, _, rfl, hD4, .inl ⟨p4, rfl, d4, l4, SqL.of e4⟩, by show 0 < 10; decide, by show 10 ≤ 1000; decide, fun x H5 hx kp hD5 => ?_⟩
    refine q x H5 ?_ ((Keep.of_same sA).trans kp) hD5
    simp only [List.mem_cons, List.not_mem_nil, or_false] at hx
    rcases hx with rfl | rfl | rfl | rfl | rfl | rfl | rfl | rfl | rfl | rfl
    · exact .inl ⟨_, rfl, by decide, by decide⟩
    · exact .inl ⟨_, rfl, by decide, by decide⟩
    · exact .inr (.inl rfl)
    · exact .inr (.inr (.inl ⟨_, rfl⟩))
    · exact .inr (.inr (.inl ⟨_, rfl⟩))
    · exact .inr (.inr (.inr (.inl ⟨_, rfl, by decide, by decide⟩)))
    · exact .inr (.inr (.inr (.inl ⟨_, rfl, by decide, by decide⟩)))
    · exact .inr (.inr (.inr (.inr (.inl ⟨_, _, rfl, d1, l1, kp _ _ e1' d1 l1, .inl rfl⟩))))
    · exact .inr (.inr (.inr (.inr (.inr ⟨_, rfl, d2, l2, kp _ _ e2' d2 l2⟩))))
    · exact .inr (.inr (.inr (.inr (.inl ⟨_, _, rfl, d3, l3, kp _ _ e3' d3 l3, .inr rfl⟩))))
theorem atI_0 {α : Type} (a : α) (r : List α) : atI (a :: r) 0 = some a := by
  unfold atI ixN
  rw [if_pos (by decide), if_pos (by rw [List.length_cons]; omega)]
  rfl
theorem atI_1 {α : Type} (a b : α) (r : List α) : atI (a :: b :: r) 1 = some b := by
  unfold atI ixN
  rw [if_pos (by decide), if_pos (by rw [List.length_cons, List.length_cons]; omega)]
  rfl
theorem cons_no {ls t : List Nat} {c : Nat} (h : c ∈ t) (n : c ∉ ls) : consB ls t = false := by
  unfold consB
  rw [List.all_eq_false]
  exact ⟨c, h, by simp [n]⟩
theorem upper1 {c : Nat} (h : c ∈ alphabet) : ∃ u, Txt.upper (tx [c]) = tx [u] ∧ u < 1000 := by
  have h1 : ∀ c ∈ alphabet, c < 128 ∧ PyProof.Rows.up1 c < 1000 := by decide
  obtain ⟨h2, h3⟩ := h1 c h
  exact ⟨_, SX.upper_S (a := [c]) (by simp [h2]), h3⟩
def spOddK : Sp := fun vs H Q _ => ∃ (D L : Addr) (ls : List Nat), vs = [.ref D, .str (tx ls)] ∧ Deal D L H ∧ 2 ≤ ls.length ∧ ls.length ≤ 5 ∧ (∀ c ∈ ls, c ∈ alphabet) ∧
  ∀ (x : V) (H' : Hp), OddKey H' D L ls x → Keep D L H H' → Deal D L H' → Q x H'
theorem cl_oddk (T : Txt K mg) : Cl P w K mg base "_law_odd_key" ["_law_deal_here", "_law_letters_here"] 3 spOddK := cl_of T.a__law_odd_key fun f fd F => by
  have C__law_pick := cl_pick (P := P) (w := w) (base := base) T
  refine F.ok sc__law_odd_key (fun vs H Q E h => ?_) (fun cdv A outer s H vs Q E hr h => ?_)
  · obtain ⟨D, L, ls, rfl, _⟩ := h
    rfl
  · obtain ⟨D, L, ls, rfl, hD, hl2, hl5, hla, q⟩ := h
    refine ⟨_, (pss_cons (ps_set (i := 2) sc__law_odd_key.nd rfl (Or.inl rfl) (pe_cl C__law_pick (hr.mono (by decide)) (by rfl) (pa_cons (pv 0) (pa_cons (pe_lc (own := [("_law_sign", 4)]) (g := gName 4) (by rfl) sc__law_odd_key.nd (pi_str (pe_strX [97, 98, 99, 100, 120, 121, 122, 48, 46] (by decide +kernel))) (blkOk_by (own := [("_law_sign", 4)]) (N := n__law_odd_key) (sc := defScope s__law_odd_key) (by decide +kernel)) (fun _ _ _ _ _ => (pg_name (i := 4) sc__law_odd_key.nd rfl (Or.inl rfl))) (fun _ _ _ _ _ => (pts_one (pt_cmpR op_notInX (pv 4) (pv 1) (by rfl)))) (fun _ _ _ _ _ => (pv 4))) pa_nil))))
      (pss_cons (ps_set (i := 3) sc__law_odd_key.nd rfl (Or.inl rfl) (pe_lst (pa_cons pe_non (pa_cons pe_int (pa_cons pe_bl (pa_cons (pe_lst (pa_cons (pv 1) pa_nil)) (pa_cons (pe_tup (pa_cons (pe_ix ix_strX (pv 1) pe_int (fun _ _ => rfl)) pa_nil)) (pa_cons (pe_op op_addX (pe_ix ix_strX (pv 1) pe_int (fun _ _ => rfl)) (pv 2)) (pa_cons (pe_strX [64] (by decide +kernel)) (pa_cons (pv 2) pa_nil))))))))))
      (pss_one (ps_ret (pe_cl C__law_pick (hr.mono (by decide)) (by rfl) (pa_cons (pv 0) (pa_cons (pe_op op_cat (pv 3) (pe_lst (pa_cons (pe_op op_addX (pe_ix ix_strX (pv 1) pe_int (fun _ _ => rfl)) (pe_strX [32] (by decide +kernel))) (pa_cons (pe_strX [10] (by decide +kernel)) (pa_cons (pe_op op_addX (pe_bm0 PySem.F.plainAttrs_str PySem.F.slot_str_upper PySem.F.type_str_upper mt_upper (pe_ix ix_strX (pv 1) pe_int (fun _ _ => rfl))) (pe_strX [65] (by decide +kernel))) pa_nil))))) pa_nil))))))), ?_⟩
    walk_at "rds"
    refine fun e ne => lc_text (l := strange) (fun i H' => Same H H' ∧ H' e = some (.lst (((strange.take i).filter (fun c => !decide (c ∈ ls))).map fun c => V.str (tx [c])))) ⟨same_upd ne, upd_same⟩ ?_ ?_
    · rintro i c H' hc ⟨sH, he⟩
      have hfl := filt_len strange i (fun c => !decide (c ∈ ls))
      have hs9 : strange.length = 9 := rfl
      walk_at "rds"
      refine ⟨rfl, ?_⟩
      walk_at "rds"
      rw [if_pos (rfl : true = true)]
      refine rd_ite (fun h => ?_) (fun h => ?_)
      · walk_at "rds"
        refine ⟨_, he, by rw [List.length_map]; exact small1000 (by omega), same_mut sH ne, ?_⟩
        rw [upd_same, filt_snoc hc h, List.map_append]
        rfl
      · rw [filt_skip hc h]
        exact ⟨sH, he⟩
    · rintro H' ⟨sH, he⟩
      rw [List.take_length] at he
      have hpos : 0 < (strange.filter (fun c => !decide (c ∈ ls))).length := by
        refine Nat.pos_of_ne_zero fun z => ?_
        have z' := List.length_eq_zero_iff.mp z
        have hsub : strange ⊆ ls := fun c hc => by
          by_cases h : c ∈ ls
          · exact h
          · have : c ∈ strange.filter (fun c => !decide (c ∈ ls)) := List.mem_filter.mpr ⟨hc, by simp [h]⟩
            rw [z'] at this
            cases this
        have := List.Nodup.length_le_of_subset (by decide : strange.Nodup) hsub
        have hs9 : strange.length = 9 := rfl
        omega
      have hle := List.length_filter_le (fun c => !decide (c ∈ ls)) strange
      have hs9 : strange.length = 9 := rfl
      have hD' := hD.keep sH
      obtain ⟨heD, heL⟩ := hD.new ne
      walk_at "rds"
      refine ⟨D, L, .ref e, _, rfl, hD', .inl ⟨e, rfl, heD, heL, SqL.of he⟩, by rw [List.length_map]; exact hpos, by rw [List.length_map]; omega, fun x H1 hx kp1 hD1 => ?_⟩
      obtain ⟨c, hc, rfl⟩ := List.mem_map.mp hx
      obtain ⟨hcs, hcn⟩ := List.mem_filter.mp hc
      have hcn : c ∉ ls := by simpa using hcn
      have hc128 : c < 1000 := by
        have : ∀ c ∈ strange, c < 1000 := by decide
        exact this c hcs
      obtain ⟨c0, c1, rest, rfl⟩ : ∃ c0 c1 rest, ls = c0 :: c1 :: rest := by
        match ls, hl2 with
        | c0 :: c1 :: rest, _ => exact ⟨c0, c1, rest, rfl⟩
      walk_at "rds"
      refine ⟨by show 1 ≤ sizeLine; decide, fun p1 n1 => ?_⟩
      obtain ⟨s1, e1, hD2, d1, l1⟩ := new_facts (o := .lst [.str (tx (c0 :: c1 :: rest))]) hD1 n1
      generalize upd H1 p1 (.lst [.str (tx (c0 :: c1 :: rest))]) = H2 at *
      walk_at "rds"
      have hszl : (c0 :: c1 :: rest).length ≤ sizeLine := Nat.le_of_lt (small1000 (by omega))
      refine rd_ixX (n := c0) hszl (atI_0 _ _) ?_
      walk_at "rds"
      refine ⟨by show 1 ≤ sizeLine; decide, fun p2 n2 => ?_⟩
      obtain ⟨s2, e2, hD3, d2, l2⟩ := new_facts (o := .tup [.str (tx [c0])]) hD2 n2
      generalize upd H2 p2 (.tup [.str (tx [c0])]) = H3 at *
      walk_at "rds"
      refine rd_ixX (n := c0) hszl (atI_0 _ _) ?_
      walk_at "rds"
      refine rd_addX (by show 2 ≤ sizeLine; decide) ?_
      walk_at "rds"
      refine ⟨by show 8 ≤ sizeLine; decide, fun p3 n3 => ?_⟩
      obtain ⟨s3, e3, hD4, d3, l3⟩ := new_facts (o := .lst [.non, .int 0, .bl true, .ref p1, .ref p2, .str (tx ([c0] ++ [c])), .str (tx [64]), .str (tx [c])]) hD3 n3
      generalize upd H3 p3 (.lst [.non, .int 0, .bl true, .ref p1, .ref p2, .str (tx ([c0] ++ [c])), .str (tx [64]), .str (tx [c])]) = H4 at *
      walk_at "rds"
      refine rd_ixX (n := c0) hszl (atI_0 _ _) ?_
      walk_at "rds"
      refine rd_addX (by show 2 ≤ sizeLine; decide) ?_
      walk_at "rds"
      refine rd_ixX (n := c0) hszl (atI_0 _ _) ?_
      walk_at "rds"
      refine ⟨rfl, by show 1 ≤ 5592405; decide, ?_⟩
      obtain ⟨u, hu, hu1⟩ := upper1 (hla c0 List.mem_cons_self)
      rw [hu]
      walk_at "rds"
      refine rd_addX (by show 2 ≤ sizeLine; decide) ?_
      walk_at "rds"
      refine ⟨by show 3 ≤ sizeLine; decide, fun p4 n4 => ?_⟩
      have s4 : Same H4 (upd H4 p4 (.lst [.str (tx ([c0] ++ [32])), .str (tx [10]), .str (tx ([u] ++ [65]))])) := same_upd n4
      refine rd_cat (s4 _ _ e3) upd_same (by show 11 ≤ sizeLine; decide) (fun p5 n5 => ?_)
      have s5 := same_trans s4 (same_upd (o := .lst ([.non, .int 0, .bl true, .ref p1, .ref p2, .str (tx ([c0] ++ [c])), .str (tx [64]), .str (tx [c])] ++ [.str (tx ([c0] ++ [32])), .str (tx [10]), .str (tx ([u] ++ [65]))])) n5)
      have e5 : upd (upd H4 p4 (.lst [.str (tx ([c0] ++ [32])), .str (tx [10]), .str (tx ([u] ++ [65]))])) p5 (.lst ([.non, .int 0, .bl true, .ref p1, .ref p2, .str (tx ([c0] ++ [c])), .str (tx [64]), .str (tx [c])] ++ [.str (tx ([c0] ++ [32])), .str (tx [10]), .str (tx ([u] ++ [65]))])) p5 = some (.lst ([.non, .int 0, .bl true, .ref p1, .ref p2, .str (tx ([c0] ++ [c])), .str (tx [64]), .str (tx [c])] ++ [.str (tx ([c0] ++ [32])), .str (tx [10]), .str (tx ([u] ++ [65]))])) := upd_same
      have hD5 := hD4.keep s5
      obtain ⟨d5, l5⟩ := (hD4.keep s4).new n5
      generalize upd (upd H4 p4 (.lst [.str (tx ([c0] ++ [32])), .str (tx [10]), .str (tx ([u] ++ [65]))])) p5 (.lst ([.non, .int 0, .bl true, .ref p1, .ref p2, .str (tx ([c0] ++ [c])), .str (tx [64]), .str (tx [c])] ++ [.str (tx ([c0] ++ [32])), .str (tx [10]), .str (tx ([u] ++ [65]))])) = H5 at s5 e5 hD5 ⊢
      walk_at "rds"
      refine ⟨D, L, .ref p5, _, rfl, hD5, .inl ⟨p5, rfl, d5, l5, SqL.of e5⟩, by show 0 < 11; decide, by show 11 ≤ 1000; decide, fun x H6 hx kp6 hD6 => ?_⟩
      have f1 := kp6 _ _ (s5 _ _ (s3 _ _ (s2 _ _ e1))) d1 l1
      have f2 := kp6 _ _ (s5 _ _ (s3 _ _ e2)) d2 l2
      have hc0 : c0 < 1000 := (by decide : ∀ c ∈ alphabet, c < 1000) c0 (hla c0 List.mem_cons_self)
      have no : ∀ z, z ∉ alphabet → z ∉ c0 :: c1 :: rest := fun z hz h => hz (hla z h)
      refine q x H6 ?_ (((((Keep.of_same sH).trans kp1).trans (Keep.of_same (same_trans (same_trans s1 s2) s3))).trans (Keep.of_same s5)).trans kp6) hD6
      simp only [List.cons_append, List.nil_append, List.mem_cons, List.not_mem_nil, or_false] at hx
      have str : ∀ t, t.length ≤ 10 → (∀ c ∈ t, c < 1000) → consB (c0 :: c1 :: rest) t = false → OddKey H6 D L (c0 :: c1 :: rest) (.str (tx t)) := fun t h1 h2 h3 => .inr (.inr (.inr (.inl ⟨t, rfl, h1, h2, h3⟩)))
      rcases hx with rfl | rfl | rfl | rfl | rfl | rfl | rfl | rfl | rfl | rfl | rfl
      · exact .inl rfl
      · exact .inr (.inl rfl)
      · exact .inr (.inr (.inl rfl))
      · exact .inr (.inr (.inr (.inr (.inl ⟨_, rfl, d1, l1, f1⟩))))
      · exact .inr (.inr (.inr (.inr (.inr ⟨_, c0, rfl, d2, l2, f2, hc0⟩))))
      · exact str _ (by show 2 ≤ 10; decide) (two_mem hc0 hc128) (cons_no (c := c) (by simp) hcn)
      · exact str _ (by decide) (one_mem (by decide)) (cons_no (c := 64) (by simp) (no 64 (by decide)))
      · exact str _ (by show 1 ≤ 10; decide) (one_mem hc128) (cons_no (c := c) (by simp) hcn)
      · exact str _ (by show 2 ≤ 10; decide) (two_mem hc0 (by decide)) (cons_no (c := 32) (by simp) (no 32 (by decide)))
      · exact str _ (by decide) (one_mem (by decide)) (cons_no (c := 10) (by simp) (no 10 (by decide)))
      · exact str _ (by show 2 ≤ 10; decide) (two_mem hu1 (by decide)) (cons_no (c := 65) (by simp) (no 65 (by decide)))
end
--C _law_pairs_right._law_key
--C _law_pairs_right._law_value_here
--C _law_pairs_right._law_due
--G _law_pairs_right
--G law
section
variable {P : Program} {w : World} {K : PySem.W.Frag} {mg : Str → Option Value} {base : Heap}
abbrev Q1 : Str := ("_law_pairs_right" ++ ".<locals>." : Str) ++ ("<lambda>" : Str)
abbrev Q2 : Str := ("law" ++ ".<locals>." : Str) ++ ("<lambda>" : Str)
abbrev TL (P1 P2 : Addr) : List (Addr × Str) := [(P1, Q1), (P2, Q2)]
def Key1 (H : Hp) (D L : Addr) (ls : List Nat) (j : Int) (x : V) : Prop := (j ≠ 1 ∧ OddKey H D L ls x) ∨ (j = 1 ∧ ∃ k, x = .str (tx k) ∧ (∀ c ∈ k, c ∈ ls) ∧ k.length ≤ 3)
theorem Key1.kt {H H' : Hp} {D L : Addr} {ls : List Nat} {j : Int} {x : V} (h : Key1 H D L ls j x) (k : KT D L H H') : Key1 H' D L ls j x := h.elim (fun h => .inl ⟨h.1, h.2.kt k⟩) .inr
/-- what the key and the value are, by the form -/
def KeyVal (H : Hp) (D L : Addr) (ls : List Nat) (j : Int) (x y : V) : Prop :=
  (j ≠ 1 ∧ OddKey H D L ls x ∧ (OddVal H D L y ∨ ∃ v : Int, y = .int v ∧ 0 ≤ v ∧ v < 10 ^ 18)) ∨ (j = 1 ∧ (∃ k, x = .str (tx k) ∧ (∀ c ∈ k, c ∈ ls) ∧ k.length ≤ 3) ∧ OddVal H D L y)
theorem KeyVal.kt {H H' : Hp} {D L : Addr} {ls : List Nat} {j : Int} {x y : V} (h : KeyVal H D L ls j x y) (k : KT D L H H') : KeyVal H' D L ls j x y := by
  rcases h with ⟨h1, h2, h3⟩ | ⟨h1, h2, h3⟩
  · exact .inl ⟨h1, h2.kt k, h3.elim (fun h => .inl (h.kt k)) .inr⟩
  · exact .inr ⟨h1, h2, h3.kt k⟩
theorem KeyVal.txt {H : Hp} {D L : Addr} {ls : List Nat} {j : Int} {x y : V} (h : KeyVal H D L ls j x y) : TxtOr K H x ∧ NumOr K H y := by
  rcases h with ⟨_, h2, h3 | ⟨v, rfl, _⟩⟩ | ⟨_, ⟨k, rfl, _, hk⟩, h3⟩
  · exact ⟨h2.txt, h3.num⟩
  · exact ⟨h2.txt, .inl ⟨v, rfl⟩⟩
  · exact ⟨.inl ⟨k, rfl, by omega⟩, h3.num⟩
abbrev Fine (K : PySem.W.Frag) (H : Hp) (x : V) (d : PyData) : Prop := Dp K H x d ∧ GoodZ 1 100 d ∧ d.canLay0 = true
theorem KeyVal.dp {H : Hp} {D L : Addr} {ls : List Nat} {j : Int} {x y : V} (h : KeyVal H D L ls j x y) (hl : ls.length ≤ 5) (ha : ∀ c ∈ ls, c < 1000) : (∃ d, Fine K H x d) ∧ ∃ d, Fine K H y d := by
  rcases h with ⟨_, h2, h3 | ⟨v, rfl, hv1, hv2⟩⟩ | ⟨_, ⟨k, rfl, hk, hk3⟩, h3⟩
  · exact ⟨h2.dp hl ha, h3.dp⟩
  · exact ⟨h2.dp hl ha, _, .int v, (int_good (by omega)).mono (by decide) (by decide), rfl⟩
  · have hk' : ∀ c ∈ k, c < 1000 := fun c hc => ha c (hk c hc)
    exact ⟨⟨_, .str _, (str_good hk').mono (by decide) (by omega), lay_str hk'⟩, h3.dp⟩
abbrev wT : List Nat := [116, 101, 120, 116]
abbrev wV : List Nat := [118, 97, 108, 117, 101]
/-- what is due -/
def Due (mg : Str → Option Value) (ls : List Nat) (x y z : V) (CE : Addr) (wd : List Nat) : Prop :=
  (isTxtB ls x = false ∧ CE = CT mg ∧ z = x ∧ wd = wT) ∨ (isTxtB ls x = true ∧ okV y = false ∧ CE = CV mg ∧ z = y ∧ wd = wV)
theorem Due.bad {ls : List Nat} {x y z : V} {CE : Addr} {wd : List Nat} (h : Due mg ls x y z CE wd) : BadAt ls x y z CE (CT mg) (CV mg) := by
  rcases h with ⟨h1, h2, h3, _⟩ | ⟨h1, h2, h3, h4, _⟩
  · exact .inl ⟨h1, h2, h3⟩
  · exact .inr ⟨h1, h2, h3, h4⟩
theorem Due.lt {ls : List Nat} {x y z : V} {CE : Addr} {wd : List Nat} (h : Due mg ls x y z CE wd) : wd.length ≤ 10 ∧ ∀ c ∈ wd, c < 1000 := by
  rcases h with ⟨_, _, _, rfl⟩ | ⟨_, _, _, _, rfl⟩ <;> exact ⟨by decide, by decide⟩
/-- the error that is due, caught -/
theorem Due.caught {ls : List Nat} {x y z : V} {CE d : Addr} {wd : List Nat} {H : Hp} {Q : VK} (h : Due mg ls x y z CE wd) (e : H d = some (.xd [("value", z)])) (q : ∀ p G, Same H G → G p = none → Q (.ref p) (upd G p (.tup [.str (tx wd), z]))) : Caught mg Q (.ref CE) (some d) H := by
  rcases h with ⟨_, rfl, rfl, rfl⟩ | ⟨_, _, rfl, rfl, rfl⟩
  · exact .inl ⟨_, d, rfl, rfl, e, q⟩
  · exact .inr (.inl ⟨_, d, rfl, rfl, e, q⟩)
theorem rd_tt {tl : XK → Hp → VK → Prop} {H : Hp} {Q : VK} (h : tl (Caught mg Q) H fun _ H' => ∃ v, (some (some V.non) : Option (Option V)) = some (some v) ∧ Q v H') : TTref mg tl H Q := h
theorem mk_same {H H1 H' : Hp} {a dx : Addr} {o : HO} (ha : H a = none) (hdx : H dx = none) (e : H1 = upd (upd H dx (.own a)) a o) (k : Keep1 a H1 H') : Same H H' := fun b u hb => by
  have h1 : b ≠ a := fun z => by
    rw [z, ha] at hb
    cases hb
  have h2 : b ≠ dx := fun z => by
    rw [z, hdx] at hb
    cases hb
  refine k b u ?_ h1
  rw [e, upd_ne h1, upd_ne h2]
  exact hb
theorem mk_raise {H : Hp} {ls : List Nat} {us1 us2 : List V} {ms : Tab} {u x y z : V} {CE p : Addr} {Q : Addr → Hp → Prop} {E : XK} (hls : areB ls = true) (hz : ls.length ≤ 1000) (hp : Seq1 K H p (us1 ++ u :: us2)) (hpr : Prs H ms us1) (hU : TwoV H (x, y) u)
    (hxy : ∀ H', Same H H' → TxtOr K H' x ∧ NumOr K H' y) (hbad : BadAt ls x y z CE (CT mg) (CV mg)) (hms : ms.length ≤ 500) (hov : ∀ q ∈ ms, Ov ls q.1 ∧ 0 ≤ q.2) (q : ∀ d H', Same H H' → H' d = some (.xd [("value", z)]) → E (.ref CE) (some d) H') :
    ∀ a dx, H a = none → H dx = none → dx ≠ a → spI K mg [.ref a, .str (tx ls), .ref p] (upd (upd H dx (.own a)) a (.ins (SC mg) dx [])) (fun v H2 => v = .non ∧ Q a H2) E := by
  intro a dx ha hdx hne
  have s1 : Same H (upd (upd H dx (.own a)) a (.ins (SC mg) dx [])) := mk_same ha hdx rfl fun _ _ h _ => h
  refine ⟨a, dx, p, .str (tx ls), rfl, upd_same, .inl ⟨ls, rfl, hz⟩, fun h => ?_, fun _ => ⟨ls, _, ms, rfl, hz, hp.keep fun o _ h => s1 _ _ h, hms, hov, .inr ⟨x, y, z, CE, us1, us2, u, rfl, hpr.same s1, ?_, fun H' k => hxy H' (mk_same ha hdx rfl k), hbad, fun d H' k e => q d H' (mk_same ha hdx rfl k) e⟩⟩⟩
  · rw [areV_tx, hls] at h
    cases h
  · obtain ⟨U, e, h⟩ := hU
    exact ⟨U, e, s1 _ _ h⟩
theorem mk_letters {H : Hp} {l : V} {p : Addr} {Q : Addr → Hp → Prop} {E : XK} (hl : TxtOr K H l) (hb : areV l = false) (q : ∀ H', Same H H' → E (.ref (CL mg)) none H') :
    ∀ a dx, H a = none → H dx = none → dx ≠ a → spI K mg [.ref a, l, .ref p] (upd (upd H dx (.own a)) a (.ins (SC mg) dx [])) (fun v H2 => v = .non ∧ Q a H2) E := by
  intro a dx ha hdx hne
  have s1 : Same H (upd (upd H dx (.own a)) a (.ins (SC mg) dx [])) := mk_same ha hdx rfl fun _ _ h _ => h
  exact ⟨a, dx, p, l, rfl, upd_same, hl.ext (Same.ext s1), fun _ H' k => q H' (mk_same ha hdx rfl k), fun h => absurd (hb.symm.trans h) (by simp)⟩
theorem deal_ext {H H' : Hp} {D L : Addr} (h : Deal D L H) (s : ExtN H H') : Deal D L H' := by
  obtain ⟨cs, m, h1, h2, r⟩ := h
  exact ⟨cs, m, s _ _ h1 (fun _ z => by cases z), s _ _ h2 (fun _ z => by cases z), r⟩
theorem prs_kt {H H' : Hp} {D L : Addr} {ms : Tab} {us : List V} (hD : Deal D L H) (k : KT D L H H') (h : Prs H ms us) : Prs H' ms us := h.keep fun T' l' e => k _ _ e (fun z => by
  obtain ⟨cs, m, h1, _⟩ := hD
  rw [z, h1] at e
  cases e) (fun z => by
  obtain ⟨cs, m, _, h1, _⟩ := hD
  rw [z, h1] at e
  cases e) fun _ z => by cases z
theorem seq1_ext {H H' : Hp} {p : Addr} {us : List V} (h : Seq1 K H p us) (s : ExtN H H') : Seq1 K H' p us := h.elim (fun h => .inl (sqL_ext h s)) fun h => .inr (sqT_ext h s)
theorem due_good {wd : List Nat} {dz : PyData} (h : wd.length ≤ 10 ∧ ∀ c ∈ wd, c < 1000) (g : GoodZ 1 100 dz) : GoodZ 20 200000 (.tuple [.str (tx wd), dz]) :=
  (tup_good (two_mem ((str_good h.2).mono (by decide) (by omega)) g)).mono (by decide) (by simp)
theorem rev_not {ls : List Nat} (h : ls.Pairwise (· < ·)) (h2 : 2 ≤ ls.length) : areB ls.reverse = false := by
  match ls, h, h2 with
  | c0 :: c1 :: rest, h, _ =>
    have hlt : c0 < c1 := (List.pairwise_cons.mp h).1 c1 List.mem_cons_self
    have e : ascB (c0 :: c1 :: rest).reverse = false := by
      unfold ascB
      rw [List.all_eq_false]
      refine ⟨(c1, c0), ?_, ?_⟩
      · rw [List.mem_iff_getElem?]
        refine ⟨rest.length, ?_⟩
        rw [List.getElem?_zip_eq_some]
        have e1 : (c0 :: c1 :: rest).reverse = rest.reverse ++ [c1, c0] := by simp
        rw [e1, List.getElem?_drop]
        constructor
        · rw [List.getElem?_append_right (by simp)]
          simp
        · rw [List.getElem?_append_right (by simp)]
          have : 1 + rest.length - rest.reverse.length = 1 := by simp
          rw [this]
          rfl
      · intro h
        have h' : [c1] < [c0] := of_decide_eq_true h
        rw [List.cons_lt_cons_iff] at h'
        rcases h' with h' | ⟨h', _⟩ <;> omega
    unfold areB
    rw [e, Bool.and_false, Bool.and_false, Bool.and_false]
def OddL (H : Hp) (D L : Addr) (l : V) : Prop := (∃ t, l = .str (tx t) ∧ t.length ≤ 10 ∧ areB t = false) ∨ l = .non ∨ l = .int 7 ∨ ∃ p, l = .ref p ∧ p ≠ D ∧ p ≠ L ∧ ∃ xs, H p = some (.lst xs) ∨ H p = some (.tup xs)
theorem OddL.kt {H H' : Hp} {D L : Addr} {l : V} (h : OddL H D L l) (k : KT D L H H') : OddL H' D L l := by
  rcases h with h | h | h | ⟨p, e, h1, h2, xs, h | h⟩
  · exact .inl h
  · exact .inr (.inl h)
  · exact .inr (.inr (.inl h))
  · exact .inr (.inr (.inr ⟨p, e, h1, h2, xs, .inl (k _ _ h h1 h2 fun _ z => by cases z)⟩))
  · exact .inr (.inr (.inr ⟨p, e, h1, h2, xs, .inr (k _ _ h h1 h2 fun _ z => by cases z)⟩))
theorem OddL.txt {H : Hp} {D L : Addr} {l : V} (h : OddL H D L l) : TxtOr K H l := by
  rcases h with ⟨t, rfl, h, _⟩ | rfl | rfl | ⟨p, rfl, _, _, xs, h | h⟩
  · exact .inl ⟨t, rfl, by omega⟩
  · exact .inr ⟨⟨_, .base .non, kit_ty (by decide +kernel)⟩, fun z e => by cases e⟩
  · exact .inr ⟨⟨_, .base (.int 7), kit_ty (by decide +kernel)⟩, fun z e => by cases e⟩
  · exact .inr ⟨⟨_, .base (.lst h), kit_ty (by decide +kernel)⟩, fun z e => by cases e⟩
  · exact .inr ⟨⟨_, .base (.tup h), kit_ty (by decide +kernel)⟩, fun z e => by cases e⟩
theorem OddL.no {H : Hp} {D L : Addr} {l : V} (h : OddL H D L l) : areV l = false := by
  rcases h with ⟨t, rfl, _, h⟩ | rfl | rfl | ⟨p, rfl, _⟩
  · rw [areV_tx]
    exact h
  · rfl
  · rfl
  · rfl
abbrev wL : List Nat := [108, 101, 116, 116, 101, 114, 115]
theorem letters_caught {H : Hp} {Q : VK} (q : ∀ p G, Same H G → G p = none → Q (.ref p) (upd G p (.tup [.str (tx wL)]))) : Caught mg Q (.ref (CL mg)) none H := .inr (.inr (.inl ⟨rfl, rfl, q⟩))
theorem cutV_drop (xs : List V) (n : Nat) : cutV xs (some (n : Int)) none = xs.drop n := by
  unfold cutV
  rw [HT.sIx_none, HT.sIx_nat]
  by_cases h : n ≤ xs.length
  · rw [Nat.min_eq_left h, List.take_of_length_le (by rw [List.length_drop]; omega)]
  · rw [Nat.min_eq_right (by omega), List.drop_of_length_le (Nat.le_refl _), List.drop_of_length_le (by omega)]
    simp
theorem build {σ : L2.St} {H : Hp} {Q : VK} {a : Addr} {n : Nat} {x y : V} {us : List V} (h2 : σ[2]? = some (some (.ref a))) (h3 : σ[3]? = some (some (.int (n : Nat)))) (h5 : σ[5]? = some (some x)) (h6 : σ[6]? = some (some y)) (ha : SqL K H a us) (hus : us.length ≤ 10)
    (q : ∀ r T1 T2 H', Same H H' → H r = none → H T1 = none → H T2 = none → H' r = some (.lst (us.take n ++ [.ref T1] ++ us.drop n ++ [.ref T2])) → H' T1 = some (.tup [x, y]) → H' T2 = some (.tup [.non, .non]) → Q (.ref r) H') :
    tOp rCat (tOp rCat (tOp rCat (tSl (rSlL K) (tVar 2) tNoPart (tPart (tVar 3))) (tLst (tCons (tTup (tCons (tVar 5) (tCons (tVar 6) tNil))) tNil))) (tSl (rSlL K) (tVar 2) (tPart (tVar 3)) tNoPart)) (tLst (tCons (tTup (tCons (tC .non) (tCons (tC .non) tNil))) tNil)) σ H Q := by
  refine rd_op (rd_op (rd_op (rd_sl (rd_var h2 (rd_nopart (rd_part (rd_var h3 ⟨_, rfl, rd_slL ha fun r1 n1 => ?_⟩)))))))
  rw [cutV_take]
  have s1 : Same H (upd H r1 (.lst (us.take n))) := same_upd n1
  have e1 : upd H r1 (.lst (us.take n)) r1 = some (.lst (us.take n)) := upd_same
  generalize upd H r1 (.lst (us.take n)) = H1 at s1 e1 ⊢
  refine rd_lst (rd_cons (rd_tup (rd_cons (rd_var h5 (rd_cons (rd_var h6 (rd_nil ⟨by show 2 ≤ sizeLine; decide, fun T1 nT1 => ?_⟩)))))))
  have s2 : Same H1 (upd H1 T1 (.tup [x, y])) := same_upd nT1
  have f1 : upd H1 T1 (.tup [x, y]) T1 = some (.tup [x, y]) := upd_same
  have hT1 : H T1 = none := same_none s1 nT1
  generalize upd H1 T1 (.tup [x, y]) = H2 at s2 f1 ⊢
  refine rd_nil ⟨by show 1 ≤ sizeLine; decide, fun p1 np1 => ?_⟩
  have s3 : Same H2 (upd H2 p1 (.lst [.ref T1])) := same_upd np1
  refine rd_cat (s3 _ _ (s2 _ _ e1)) upd_same (by rw [List.length_take]; exact Nat.le_of_lt (small1000 (by simp; omega))) (fun r2 nr2 => ?_)
  have s4 := same_trans s3 (same_upd (o := .lst (us.take n ++ [.ref T1])) nr2)
  have e2 : upd (upd H2 p1 (.lst [.ref T1])) r2 (.lst (us.take n ++ [.ref T1])) r2 = some (.lst (us.take n ++ [.ref T1])) := upd_same
  generalize upd (upd H2 p1 (.lst [.ref T1])) r2 (.lst (us.take n ++ [.ref T1])) = H3 at s4 e2 ⊢
  have s13 := same_trans s1 (same_trans s2 s4)
  refine rd_sl (rd_var h2 (rd_part (rd_var h3 ⟨_, rfl, rd_nopart (rd_slL (sqL_same ha s13) fun r3 nr3 => ?_)⟩)))
  rw [cutV_drop]
  have s5 : Same H3 (upd H3 r3 (.lst (us.drop n))) := same_upd nr3
  refine rd_cat (s5 _ _ e2) upd_same (by rw [List.length_append, List.length_take, List.length_drop]; exact Nat.le_of_lt (small1000 (by simp; omega))) (fun r4 nr4 => ?_)
  have s6 := same_trans s5 (same_upd (o := .lst (us.take n ++ [.ref T1] ++ us.drop n)) nr4)
  have e4 : upd (upd H3 r3 (.lst (us.drop n))) r4 (.lst (us.take n ++ [.ref T1] ++ us.drop n)) r4 = some (.lst (us.take n ++ [.ref T1] ++ us.drop n)) := upd_same
  generalize upd (upd H3 r3 (.lst (us.drop n))) r4 (.lst (us.take n ++ [.ref T1] ++ us.drop n)) = H4 at s6 e4 ⊢
  refine rd_lst (rd_cons (rd_tup (rd_cons (rd_c (rd_cons (rd_c (rd_nil ⟨by show 2 ≤ sizeLine; decide, fun T2 nT2 => ?_⟩)))))))
  have s7 : Same H4 (upd H4 T2 (.tup [.non, .non])) := same_upd nT2
  have f2 : upd H4 T2 (.tup [.non, .non]) T2 = some (.tup [.non, .non]) := upd_same
  generalize upd H4 T2 (.tup [.non, .non]) = H5 at s7 f2 ⊢
  refine rd_nil ⟨by show 1 ≤ sizeLine; decide, fun p2 np2 => ?_⟩
  have s8 : Same H5 (upd H5 p2 (.lst [.ref T2])) := same_upd np2
  refine rd_cat (s8 _ _ (s7 _ _ e4)) upd_same (by rw [List.length_append, List.length_append, List.length_take, List.length_drop]; exact Nat.le_of_lt (small1000 (by simp; omega))) (fun r nr => ?_)
  have s9 := same_trans s8 (same_upd (o := .lst (us.take n ++ [.ref T1] ++ us.drop n ++ [.ref T2])) nr)
  have sA := same_trans s13 (same_trans s6 s7)
  have sB := same_trans sA s9
  exact q r T1 T2 _ sB (same_none (same_trans sA s8) nr) hT1 (same_none (same_trans s13 s6) nT2) upd_same ((same_trans s4 (same_trans s6 (same_trans s7 s9))) _ _ f1) (s9 _ _ f2)
def spPairsR (K : PySem.W.Frag) (P1 P2 : Addr) : Sp := fun vs H Q _ => ∃ (D L a : Addr) (ls : List Nat) (us : List V) (ms : Tab), vs = [.ref D, .str (tx ls), .ref a] ∧ Deal D L H ∧ areB ls = true ∧ ls.Pairwise (· < ·) ∧ 2 ≤ ls.length ∧ ls.length ≤ 5 ∧ (∀ c ∈ ls, c ∈ alphabet) ∧
  a ≠ D ∧ a ≠ L ∧ H a = some (.lst us) ∧ Prs H ms us ∧ (∀ q ∈ ms, Ov ls q.1 ∧ q.1.length ≤ 3 ∧ 0 ≤ q.2 ∧ q.2 < 10 ^ 18) ∧ ms.length ≤ 5 ∧ LamX.Tabs (TL P1 P2) H ∧ ∀ H', KT D L H H' → Deal D L H' → LamX.Tabs (TL P1 P2) H' → Q (.bl true) H'
theorem cl_pairsr (T : Txt K mg) (Z : Xt K mg) {c1 P1 P2 : Addr} (aC : AtC K mg "_law_pairs_right" s__law_pairs_right ["_law_deal_here", "_law_letters_here", "_law_pairs"] c1) (TB : LamX.TabB base mg c1 P1) (hP : P1 ≠ P2) :
    ClG P w K mg base "_law_pairs_right" ["_law_deal_here", "_law_letters_here", "_law_pairs"] 10 (spPairsR K P1 P2) := clGC_of aC fun f fd F => by
  have C__law_draw := cl_draw (P := P) (w := w) (base := base) T
  have C__law_pick := cl_pick (P := P) (w := w) (base := base) T
  have C__law_text := cl_text (P := P) (w := w) (base := base) T
  have C__law_value := cl_value (P := P) (w := w) (base := base) T
  have C__law_odd_key := cl_oddk (P := P) (w := w) (base := base) T
  have C__law_odd_value := cl_oddv (P := P) (w := w) (base := base) T
  obtain ⟨E0', hE0, C_Store_1⟩ := mk_Store_1 (P := P) (w := w) (base := base) T
  have C_Store_2 := mk_Store_2 (P := P) (w := w) (base := base) T
  have hmT : (P1, Q1) ∈ TL P1 P2 := List.mem_cons_self
  have hu : ∀ p ∈ TL P1 P2, p.1 = P1 → p.2 = Q1 := fun p hp e => by
    rcases List.mem_cons.mp hp with rfl | hp
    · rfl
    · rw [List.mem_singleton.mp hp] at e
      exact absurd e.symm hP
  refine okGC F sc__law_pairs_right (fun vs H Q E h => ?_) (fun A outer s H vs Q E hgd hr h => ?_)
  · obtain ⟨D, L, a, ls, us, ms, rfl, _⟩ := h
    rfl
  · obtain ⟨D, L, a, ls, us, ms, rfl, hD, hls, hup, hl2, hl5, hla, haD, haL, ha, hpr, hov, hms, hT, q⟩ := h
    refine ⟨_, (pss_cons (ps_par (i := 3) (j := 4) (by rfl) sc__law_pairs_right.nd rfl rfl (by decide) rfl rfl (pa_cons (pe_cl C__law_draw (hr.mono (by decide)) (by rfl) (pa_cons (pv 0) (pa_cons (pe_op op_add (pe_callB call_lenQ (by rfl) T.m_len (by decide +kernel) (pa_cons (pv 2) pa_nil)) pe_int) pa_nil))) (pa_cons (pe_cl C__law_draw (hr.mono (by decide)) (by rfl) (pa_cons (pv 0) (pa_cons pe_int pa_nil))) pa_nil)) (by rfl))
      (Evl.pss_cut (ps_set (i := 5) sc__law_pairs_right.nd rfl (Or.inl rfl) (pe_ifExp (pt_cmpR op_ne (pv 4) pe_int (nomark _)) (pe_cl C__law_odd_key (hr.mono (by decide)) (by rfl) (pa_cons (pv 0) (pa_cons (pv 1) pa_nil))) (pe_cl C__law_text (hr.mono (by decide)) (by rfl) (pa_cons (pv 0) (pa_cons (pv 1) (pa_cons pe_int pa_nil))))))
      (Evl.pss_cut (ps_set (i := 6) sc__law_pairs_right.nd rfl (Or.inl rfl) (pe_ifExp (pt_cmpR op_ne (pv 4) pe_int (nomark _)) (pe_cl C__law_odd_value (hr.mono (by decide)) (by rfl) (pa_cons (pv 0) pa_nil)) (pe_cl C__law_value (hr.mono (by decide)) (by rfl) (pa_cons (pv 0) pa_nil))))
      (pss_cons (ps_set (i := 10) sc__law_pairs_right.nd rfl (Or.inr rfl) (pe_op op_cat (pe_op op_cat (pe_op op_cat (pe_slice sl_list (pv 2) po_none (po_some (pv 3))) (pe_lst (pa_cons (pe_tup (pa_cons (pv 5) (pa_cons (pv 6) pa_nil))) pa_nil))) (pe_slice sl_list (pv 2) (po_some (pv 3)) po_none)) (pe_lst (pa_cons (pe_tup (pa_cons pe_non (pa_cons pe_non pa_nil))) pa_nil))))
      (Evl.pss_cut (ps_set (i := 7) sc__law_pairs_right.nd rfl (Or.inl rfl) (pe_ifExp (pt_cmpR op_ne (pv 4) pe_int (nomark _)) (pe_tup (pa_cons (pe_strX [116, 101, 120, 116] (by decide +kernel)) (pa_cons (pv 5) pa_nil))) (pe_tup (pa_cons (pe_strX [118, 97, 108, 117, 101] (by decide +kernel)) (pa_cons (pv 6) pa_nil)))))
      (Evl.pss_cut (ps_for PassesOwn.never rfl (pi_tup (pe_tup (pa_cons (pv 10) (pa_cons (pe_tupleOf (by rfl) T.m_tuple (pv 10)) pa_nil)))) (pg_name (i := 11) sc__law_pairs_right.nd rfl (Or.inr rfl))
      (pss_one (ps_if (pt_cmpR op_ne (pe_callB (r := rReprZ K) (call_reprZ hgd hr) (by rfl) T.m_repr (by decide +kernel) (pa_cons (pe_lamG T.a__law_refused (by rfl) sc__law_refused rfl (.inl rfl) (fun g cdg => gives_law_refused T Z) TB rfl hmT hu hr (LamX.lamS_by (sc := defScope s__law_pairs_right) (by decide +kernel)) rfl (fun _ _ _ _ _ => rfl) (fun A outer s H E f c hr => (pe_mkDX C_Store_2 hr (by decide) (by rfl) (takes_of rfl rfl rfl rfl) (pa_cons (pv 1) (pa_cons (pv 11) pa_nil))))) pa_nil)) (pe_callB (r := rReprZ K) (call_reprZ hgd hr) (by rfl) T.m_repr (by decide +kernel) (pa_cons (pv 7) pa_nil)) (nomark _))
      (pss_one (ps_ret pe_bl))
      pss_nil)))
      (pss_cons (ps_set (i := 8) sc__law_pairs_right.nd rfl (Or.inl rfl) (pe_lst (pa_cons (pe_strX [] (by decide +kernel)) (pa_cons (pe_strX [97] (by decide +kernel)) (pa_cons (pe_strX [98, 97] (by decide +kernel)) (pa_cons (pe_strX [97, 97, 98] (by decide +kernel)) (pa_cons (pe_strX [97, 98, 99, 100, 101, 102] (by decide +kernel)) (pa_cons (pe_strX [97, 32] (by decide +kernel)) (pa_cons (pe_strX [97, 66] (by decide +kernel)) (pa_cons pe_non (pa_cons pe_int (pa_cons (pe_lst (pa_cons (pe_strX [97] (by decide +kernel)) (pa_cons (pe_strX [98] (by decide +kernel)) pa_nil))) (pa_cons (pe_tup (pa_cons (pe_strX [97] (by decide +kernel)) (pa_cons (pe_strX [98] (by decide +kernel)) pa_nil))) (pa_cons (pe_strX [97, 64] (by decide +kernel)) pa_nil))))))))))))))
      (pss_cons (ps_set (i := 9) sc__law_pairs_right.nd rfl (Or.inr rfl) (pe_cl C__law_pick (hr.mono (by decide)) (by rfl) (pa_cons (pv 0) (pa_cons (pe_op op_cat (pv 8) (pe_lst (pa_cons (pe_revS (pv 1)) pa_nil))) pa_nil))))
      (pss_cons (ps_if (pt_cmpR (op_neD hr.units) (pe_lamG T.a__law_refused (by rfl) sc__law_refused rfl (.inl rfl) (fun g cdg => gives_law_refused T Z) TB rfl hmT hu hr (LamX.lamS_by (sc := defScope s__law_pairs_right) (by decide +kernel)) rfl (fun _ _ _ _ _ => rfl) (fun A outer s H E f c hr => (pe_mkDX C_Store_2 hr (by decide) (by rfl) (takes_of rfl rfl rfl rfl) (pa_cons (pv 9) (pa_cons (pv 10) pa_nil))))) (pe_tup (pa_cons (pe_strX [108, 101, 116, 116, 101, 114, 115] (by decide +kernel)) pa_nil)) (nomark _))
      (pss_one (ps_ret pe_bl))
      pss_nil)
      (pss_cons (ps_if (pt_cmpR (op_neD hr.units) (pe_lamG T.a__law_refused (by rfl) sc__law_refused rfl (.inl rfl) (fun g cdg => gives_law_refused T Z) TB rfl hmT hu hr (LamX.lamS_by (sc := defScope s__law_pairs_right) (by decide +kernel)) rfl (fun _ _ _ _ _ => rfl) (fun A outer s H E f c hr => (pe_mkDX C_Store_1 hr (by decide) (by rfl) (takes_of rfl rfl rfl rfl) (pa_cons (pv 9) pa_nil)))) (pe_tup (pa_cons (pe_strX [108, 101, 116, 116, 101, 114, 115] (by decide +kernel)) pa_nil)) (nomark _))
      (pss_one (ps_ret pe_bl))
      pss_nil)
      (pss_one (ps_ret (pe_cmpR (op_eqD hr.units) (pv 10) (pe_op op_cat (pe_op op_cat (pe_op op_cat (pe_slice sl_list (pv 2) po_none (po_some (pv 3))) (pe_lst (pa_cons (pe_tup (pa_cons (pv 5) (pa_cons (pv 6) pa_nil))) pa_nil))) (pe_slice sl_list (pv 2) (po_some (pv 3)) po_none)) (pe_lst (pa_cons (pe_tup (pa_cons pe_non (pa_cons pe_non pa_nil))) pa_nil))) (nomark _)))))))))))))), ?_⟩
    walk_at "rds"
    have hlu := hpr.len
    refine rd_lenL (SqL.of ha) ?_
    walk_at "rds"
    refine ⟨D, L, _, rfl, hD, by omega, by omega, fun i H1 hi1 hi2 kp1 hD1 => ?_⟩
    obtain ⟨n, rfl⟩ := Int.eq_ofNat_of_zero_le hi1
    walk_at "rds"
    refine ⟨D, L, _, rfl, hD1, by decide, by decide, fun j H2 hj1 hj2 kp2 hD2 => ?_⟩
    walk_at "rds"
    have k2 : KT D L H H2 := (KT.keep kp1).trans (KT.keep kp2)
    have hT2 : LamX.Tabs (TL P1 P2) H2 := tabs_keep hD1 kp2 (tabs_keep hD kp1 hT)
    refine rd_cut (fun σ' H' => ∃ x, σ' = [some (.ref D), some (.str (tx ls)), some (.ref a), some (.int (n : Nat)), some (.int j), some x, none, none, none, none, none, none] ∧ Key1 H' D L ls j x ∧ KT D L H H' ∧ Deal D L H' ∧ LamX.Tabs (TL P1 P2) H') ?_ ?_
    · walk_at "rds"
      refine rd_ite (fun h => ?_) (fun h => ?_)
      · have hj : j ≠ 1 := fun e => by
          rw [e] at h
          simp at h
        walk_at "rds"
        exact ⟨D, L, ls, rfl, hD2, hl2, hl5, hla, fun x H3 hx kp3 hD3 => ⟨x, rfl, .inl ⟨hj, hx⟩, k2.trans (KT.keep kp3), hD3, tabs_keep hD2 kp3 hT2⟩⟩
      · have hj : j = 1 := by
          simp at h
          exact h
        walk_at "rds"
        exact ⟨D, L, ls, 3, rfl, hD2, (fun e => by rw [e] at hl2; simp at hl2), by omega, by decide, by decide, fun t H3 ht ht3 kp3 hD3 => ⟨_, rfl, .inr ⟨hj, t, rfl, ht, by omega⟩, k2.trans (KT.keep kp3), hD3, tabs_keep hD2 kp3 hT2⟩⟩
    rintro σ' H3 ⟨x, rfl, hx3, k3, hD3, hT3⟩
    refine rd_cut (fun σ' H' => ∃ y, σ' = [some (.ref D), some (.str (tx ls)), some (.ref a), some (.int (n : Nat)), some (.int j), some x, some y, none, none, none, none, none] ∧ KeyVal H' D L ls j x y ∧ KT D L H H' ∧ Deal D L H' ∧ LamX.Tabs (TL P1 P2) H') ?_ ?_
    · walk_at "rds"
      refine rd_ite (fun h => ?_) (fun h => ?_)
      · walk_at "rds"
        refine ⟨D, L, rfl, hD3, fun y H4 hy kp4 hD4 => ⟨y, rfl, ?_, k3.trans (KT.keep kp4), hD4, tabs_keep hD3 kp4 hT3⟩⟩
        rcases hx3 with ⟨hj, hx⟩ | ⟨hj, hx⟩
        · exact .inl ⟨hj, hx.kt (KT.keep kp4), .inl hy⟩
        · exact .inr ⟨hj, hx, hy⟩
      · have hj : j = 0 := by
          simp at h
          exact h
        walk_at "rds"
        refine ⟨D, L, rfl, hD3, fun v H4 hv1 hv2 kp4 hD4 => ⟨_, rfl, ?_, k3.trans (KT.keep kp4), hD4, tabs_keep hD3 kp4 hT3⟩⟩
        rcases hx3 with ⟨hj, hx⟩ | ⟨hj', hx⟩
        · exact .inl ⟨hj, hx.kt (KT.keep kp4), .inr ⟨v, rfl, hv1, hv2⟩⟩
        · omega
    rintro σ' H4 ⟨y, rfl, hkv, k4, hD4, hT4⟩
    have ha4 : H4 a = some (.lst us) := k4 _ _ ha haD haL fun _ z => by cases z
    have hpr4 : Prs H4 ms us := hpr.keep fun T' l' h => k4 _ _ h (fun z => by
      obtain ⟨cs, m, h1, _⟩ := hD
      rw [z, h1] at h
      cases h) (fun z => by
      obtain ⟨cs, m, _, h1, _⟩ := hD
      rw [z, h1] at h
      cases h) fun _ z => by cases z
    walk_at "rd"
    walk_at "rd"
    refine build rfl rfl rfl rfl (SqL.of ha4) (by omega) (fun r T1 T2 H5 s5 nr nT1 nT2 er eT1 eT2 => ?_)
    have hD5 := hD4.keep s5
    have hT5 := tabs_same s5 hT4
    have hkv5 : KeyVal H5 D L ls j x y := hkv.kt (KT.of s5)
    have hpr5 := hpr4.same s5
    have ha5 := s5 _ _ ha4
    obtain ⟨hrD, hrL⟩ := hD4.new nr
    obtain ⟨hTD, hTL⟩ := hD4.new nT1
    obtain ⟨hT2D, hT2L⟩ := hD4.new nT2
    have k5 := k4.trans (KT.of s5)
    have hlt : ∀ c ∈ ls, c < 1000 := fun c hc => (by decide : ∀ c ∈ alphabet, c < 1000) c (hla c hc)
    walk_at "rds"
    refine rd_cut (fun σ' H' => ∃ g z CE wd, σ' = [some (.ref D), some (.str (tx ls)), some (.ref a), some (.int (n : Nat)), some (.int j), some x, some y, some (.ref g), none, none, some (.ref r), none] ∧ Due mg ls x y z CE wd ∧ (z = x ∨ z = y) ∧ g ≠ D ∧ g ≠ L ∧ H' g = some (.tup [.str (tx wd), z]) ∧ Same H5 H') ?_ ?_
    · walk_at "rds"
      refine rd_ite (fun h => ?_) (fun h => ?_)
      · have hj : j ≠ 1 := fun e => by
          rw [e] at h
          simp at h
        have hx5 : isTxtB ls x = false := by
          rcases hkv5 with ⟨_, h2, _⟩ | ⟨h1, _⟩
          · exact h2.no
          · exact absurd h1 hj
        walk_at "rds"
        refine ⟨by show 2 ≤ sizeLine; decide, fun g ng => ?_⟩
        obtain ⟨s6, e6, hD6, gD, gL⟩ := new_facts (o := .tup [.str (tx wT), x]) hD5 ng
        walk_at "rds"
        exact ⟨g, x, _, wT, rfl, .inl ⟨hx5, rfl, rfl, rfl⟩, .inl rfl, gD, gL, e6, s6⟩
      · have hj : j = 1 := by
          simp at h
          exact h
        have hx5 : isTxtB ls x = true ∧ okV y = false := by
          rcases hkv5 with ⟨h1, _⟩ | ⟨_, ⟨k, rfl, hk, hk3⟩, h3⟩
          · exact absurd hj h1
          · exact ⟨isTxt_ov ⟨hk, by omega⟩, h3.no⟩
        walk_at "rds"
        refine ⟨by show 2 ≤ sizeLine; decide, fun g ng => ?_⟩
        obtain ⟨s6, e6, hD6, gD, gL⟩ := new_facts (o := .tup [.str (tx wV), y]) hD5 ng
        walk_at "rds"
        exact ⟨g, y, _, wV, rfl, .inr ⟨hx5.1, hx5.2, rfl, rfl, rfl⟩, .inr rfl, gD, gL, e6, s6⟩
    rintro σ' H6 ⟨g, z, CE, wd, rfl, hdue, hz, gD, gL, eg, s6⟩
    have hD6 := hD5.keep s6
    have hT6 := tabs_same s6 hT5
    have k6 := k5.trans (KT.of s6)
    have k46 : KT D L H4 H6 := KT.of (same_trans s5 s6)
    refine rd_cut (fun σ' H' => ∃ tv, σ' = [some (.ref D), some (.str (tx ls)), some (.ref a), some (.int (n : Nat)), some (.int j), some x, some y, some (.ref g), none, none, some (.ref r), tv] ∧ KT D L H6 H' ∧ Deal D L H' ∧ LamX.Tabs (TL P1 P2) H') ?_ ?_
    · walk_at "rds"
      have er6 : H6 r = some (.lst (us.take n ++ [.ref T1] ++ us.drop n ++ [.ref T2])) := s6 _ _ er
      refine rd_var rfl (.inl ⟨r, _, rfl, SqL.of er6, fun tq ntq => ?_⟩)
      obtain ⟨s7, e7, hD7, tqD, tqL⟩ := new_facts (o := .tup (us.take n ++ [.ref T1] ++ us.drop n ++ [.ref T2])) hD6 ntq
      generalize upd H6 tq (.tup (us.take n ++ [.ref T1] ++ us.drop n ++ [.ref T2])) = H7 at *
      refine rd_nil ⟨by show 2 ≤ sizeLine; decide, fun tp ntp => ?_⟩
      obtain ⟨s8, e8, hD8, tpD, tpL⟩ := new_facts (o := .tup [.ref r, .ref tq]) hD7 ntp
      generalize upd H7 tp (.tup [.ref r, .ref tq]) = H8 at *
      have s68 := same_trans s7 s8
      refine ⟨tp, rfl, ⟨_, SqT.of e8⟩, for_it walk_tup (fun i σ' H' => (∃ tv, σ' = [some (.ref D), some (.str (tx ls)), some (.ref a), some (.int (n : Nat)), some (.int j), some x, some y, some (.ref g), none, none, some (.ref r), tv]) ∧ KT D L H8 H' ∧ Deal D L H' ∧ LamX.Tabs (TL P1 P2) H')
        ⟨⟨_, rfl⟩, KT.of (same_refl _), hD8, tabs_same s68 hT6⟩ (fun i σ' H' _ h => SqT.of (h.2.1 _ _ e8 tpD tpL fun _ z => by cases z)) ?_ ?_⟩
      · rintro i x' σ' H9 H10 hi ⟨⟨tv, rfl⟩, k9, hD9, hT9⟩ ⟨rfl, hx'⟩
        have eL : us.take n ++ [.ref T1] ++ us.drop n ++ [.ref T2] = us.take n ++ .ref T1 :: (us.drop n ++ [.ref T2]) := by simp
        have hq : ∃ q0, x' = .ref q0 ∧ Seq1 K H10 q0 (us.take n ++ .ref T1 :: (us.drop n ++ [.ref T2])) := by
          rw [← eL]
          match i, hx' with
          | 0, e =>
            cases e
            exact ⟨r, rfl, .inl (SqL.of (k9 _ _ (s68 _ _ er6) hrD hrL fun _ z => by cases z))⟩
          | 1, e =>
            cases e
            exact ⟨tq, rfl, .inr (SqT.of (k9 _ _ (s8 _ _ e7) tqD tqL fun _ z => by cases z))⟩
          | i + 2, e => simp at e
        obtain ⟨q0, rfl, hq0⟩ := hq
        walk_at "rds"
        refine ⟨hT9, fun H11 x11 hT11 => ?_⟩
        have k11 : KT D L H6 H11 := (KT.of s68).trans (k9.trans (KT.ext x11))
        refine rd_tt ?_
        walk_at "rds"
        refine mk_raise (mg := mg) hls (by omega) (seq1_ext hq0 x11) (prs_kt hD (k6.trans k11) (hpr.take n)) ⟨T1, rfl, ((KT.of s6).trans k11) _ _ eT1 hTD hTL fun _ z => by cases z⟩ (fun H' s' => (hkv.kt ((k46.trans k11).trans (KT.of s'))).txt) hdue.bad (by rw [List.length_take]; omega) (fun q hq => ?_) (fun d H12 s12 e12 => hdue.caught e12 fun p G sG nG => ?_)
        · have := hov q (List.mem_of_mem_take hq)
          exact ⟨this.1, this.2.2.1⟩
        · have sP : Same G (upd G p (.tup [.str (tx wd), z])) := same_upd nG
          have eP : upd G p (.tup [.str (tx wd), z]) p = some (.tup [.str (tx wd), z]) := upd_same
          generalize upd G p (.tup [.str (tx wd), z]) = H13 at sP eP ⊢
          have sAll := same_trans s12 (same_trans sG sP)
          have k13 := k11.trans (KT.of sAll)
          obtain ⟨⟨dx, hdx⟩, ⟨dy, hdy⟩⟩ := (hkv.kt (k46.trans k13)).dp (K := K) (by omega) hlt
          obtain ⟨dz, hdz⟩ : ∃ d, Fine K H13 z d := by
            rcases hz with rfl | rfl
            · exact ⟨dx, hdx⟩
            · exact ⟨dy, hdy⟩
          have gg := due_good hdue.lt hdz.2.1
          have eg13 := k13 _ _ eg gD gL fun _ z => by cases z
          walk_at "rds"
          refine rd_reprZ (.tup (SqT.of eP) (.cons (.str _) (.cons hdz.1 .nil))) gg ?_
          walk_at "rds"
          refine rd_reprZ (.tup (SqT.of eg13) (.cons (.str _) (.cons hdz.1 .nil))) gg ?_
          walk_at "rds"
          refine rd_ite (fun h => by simp at h) (fun _ => ?_)
          exact ⟨⟨_, rfl⟩, k9.trans ((KT.ext x11).trans (KT.of sAll)), (deal_ext hD9 x11).keep sAll, tabs_same sAll hT11⟩
      · rintro σ' H9 ⟨⟨tv, rfl⟩, k9, hD9, hT9⟩
        exact ⟨tv, rfl, (KT.of s68).trans k9, hD9, hT9⟩
    · rintro σ' H7 ⟨tv, rfl, k67, hD7, hT7⟩
      walk_at "rds"
      refine ⟨by show 2 ≤ sizeLine; decide, fun p1 n1 => ?_⟩
      obtain ⟨s1, e1, hD8, d1, l1⟩ := new_facts (o := .lst [.str (tx [97]), .str (tx [98])]) hD7 n1
      generalize upd H7 p1 (.lst [.str (tx [97]), .str (tx [98])]) = H8 at *
      walk_at "rds"
      refine ⟨by show 2 ≤ sizeLine; decide, fun p2 n2 => ?_⟩
      obtain ⟨s2, e2, hD9, d2, l2⟩ := new_facts (o := .tup [.str (tx [97]), .str (tx [98])]) hD8 n2
      generalize upd H8 p2 (.tup [.str (tx [97]), .str (tx [98])]) = H9 at *
      walk_at "rds"
      refine ⟨by show 12 ≤ sizeLine; decide, fun p3 n3 => ?_⟩
      obtain ⟨s3, e3, hD10, d3, l3⟩ := new_facts (o := .lst [.str (tx []), .str (tx [97]), .str (tx [98, 97]), .str (tx [97, 97, 98]), .str (tx [97, 98, 99, 100, 101, 102]), .str (tx [97, 32]), .str (tx [97, 66]), .non, .int 7, .ref p1, .ref p2, .str (tx [97, 64])]) hD9 n3
      generalize upd H9 p3 (.lst [.str (tx []), .str (tx [97]), .str (tx [98, 97]), .str (tx [97, 97, 98]), .str (tx [97, 98, 99, 100, 101, 102]), .str (tx [97, 32]), .str (tx [97, 66]), .non, .int 7, .ref p1, .ref p2, .str (tx [97, 64])]) = H10 at *
      walk_at "rds"
      refine rd_revS (rd_var rfl ⟨ls, rfl, Nat.le_of_lt (small1000 (by omega)), ?_⟩)
      walk_at "rds"
      refine ⟨by show 1 ≤ sizeLine; decide, fun p4 n4 => ?_⟩
      have s4 : Same H10 (upd H10 p4 (.lst [.str (tx ls.reverse)])) := same_upd n4
      refine rd_cat (s4 _ _ e3) upd_same (by show 13 ≤ sizeLine; decide) (fun p5 n5 => ?_)
      have s5' := same_trans s4 (same_upd (o := .lst ([.str (tx []), .str (tx [97]), .str (tx [98, 97]), .str (tx [97, 97, 98]), .str (tx [97, 98, 99, 100, 101, 102]), .str (tx [97, 32]), .str (tx [97, 66]), .non, .int 7, .ref p1, .ref p2, .str (tx [97, 64])] ++ [.str (tx ls.reverse)])) n5)
      have e5 : upd (upd H10 p4 (.lst [.str (tx ls.reverse)])) p5 (.lst ([.str (tx []), .str (tx [97]), .str (tx [98, 97]), .str (tx [97, 97, 98]), .str (tx [97, 98, 99, 100, 101, 102]), .str (tx [97, 32]), .str (tx [97, 66]), .non, .int 7, .ref p1, .ref p2, .str (tx [97, 64])] ++ [.str (tx ls.reverse)])) p5 = some (.lst ([.str (tx []), .str (tx [97]), .str (tx [98, 97]), .str (tx [97, 97, 98]), .str (tx [97, 98, 99, 100, 101, 102]), .str (tx [97, 32]), .str (tx [97, 66]), .non, .int 7, .ref p1, .ref p2, .str (tx [97, 64])] ++ [.str (tx ls.reverse)])) := upd_same
      have hD11 := hD10.keep s5'
      obtain ⟨d5, l5⟩ := (hD10.keep s4).new n5
      generalize upd (upd H10 p4 (.lst [.str (tx ls.reverse)])) p5 (.lst ([.str (tx []), .str (tx [97]), .str (tx [98, 97]), .str (tx [97, 97, 98]), .str (tx [97, 98, 99, 100, 101, 102]), .str (tx [97, 32]), .str (tx [97, 66]), .non, .int 7, .ref p1, .ref p2, .str (tx [97, 64])] ++ [.str (tx ls.reverse)])) = H11 at s5' e5 hD11 ⊢
      have sA := same_trans (same_trans (same_trans s1 s2) s3) s5'
      walk_at "rds"
      refine ⟨D, L, .ref p5, _, rfl, hD11, .inl ⟨p5, rfl, d5, l5, SqL.of e5⟩, by show 0 < 13; decide, by show 13 ≤ 1000; decide, fun l H12 hl kp12 hD12 => ?_⟩
      have f1 := kp12 _ _ (s5' _ _ (s3 _ _ (s2 _ _ e1))) d1 l1
      have f2 := kp12 _ _ (s5' _ _ (s3 _ _ e2)) d2 l2
      have hT12 : LamX.Tabs (TL P1 P2) H12 := tabs_keep hD11 kp12 (tabs_same sA hT7)
      have k12 : KT D L H6 H12 := k67.trans ((KT.of sA).trans (KT.keep kp12))
      have hol : OddL H12 D L l := by
        simp only [List.cons_append, List.nil_append, List.mem_cons, List.not_mem_nil, or_false] at hl
        have str : ∀ t, t.length ≤ 10 → areB t = false → OddL H12 D L (.str (tx t)) := fun t h1 h2 => .inl ⟨t, rfl, h1, h2⟩
        rcases hl with rfl | rfl | rfl | rfl | rfl | rfl | rfl | rfl | rfl | rfl | rfl | rfl | rfl
        · exact str _ (by decide) (by decide)
        · exact str _ (by decide) (by decide)
        · exact str _ (by decide) (by decide)
        · exact str _ (by decide) (by decide)
        · exact str _ (by decide) (by decide)
        · exact str _ (by decide) (by decide)
        · exact str _ (by decide) (by decide)
        · exact .inr (.inl rfl)
        · exact .inr (.inr (.inl rfl))
        · exact .inr (.inr (.inr ⟨_, rfl, d1, l1, _, .inl f1⟩))
        · exact .inr (.inr (.inr ⟨_, rfl, d2, l2, _, .inr f2⟩))
        · exact str _ (by decide) (by decide)
        · exact str _ (by rw [List.length_reverse]; omega) (rev_not hup hl2)
      clear hl f1 f2 e5 s5' s4 e3 e2 e1 s1 s2 s3 sA
      walk_at "rds"
      refine ⟨hT12, fun H13x xx hTx => ?_⟩
      refine rd_tt ?_
      walk_at "rds"
      have ho13 : OddL H13x D L l := hol.kt ((KT.of (same_refl _)).trans (KT.ext xx))
      refine mk_letters (mg := mg) ho13.txt ho13.no fun G0 s0 => letters_caught fun p G sG nG => ?_
      have sP : Same G (upd G p (.tup [.str (tx wL)])) := same_upd nG
      have eP : upd G p (.tup [.str (tx wL)]) p = some (.tup [.str (tx wL)]) := upd_same
      generalize upd G p (.tup [.str (tx wL)]) = G1 at sP eP ⊢
      walk_at "rds"
      refine ⟨by show 1 ≤ sizeLine; decide, fun p' np' => ?_⟩
      have sP' : Same G1 (upd G1 p' (.tup [.str (tx wL)])) := same_upd np'
      have eP' : upd G1 p' (.tup [.str (tx wL)]) p' = some (.tup [.str (tx wL)]) := upd_same
      have eP2 := sP' _ _ eP
      have sAll := same_trans s0 (same_trans sG (same_trans sP sP'))
      generalize upd G1 p' (.tup [.str (tx wL)]) = H13 at sAll eP' eP2 ⊢
      have hD13 := (deal_ext hD12 xx).keep sAll
      have hT13 := tabs_same sAll hTx
      have k13 := k12.trans ((KT.ext xx).trans (KT.of sAll))
      have hol13 := ho13.kt (KT.of sAll)
      clear hTx
      walk_at "rds"
      refine ⟨.tuple [.str (tx wL)], .tuple [.str (tx wL)], .tup (SqT.of eP2) (.cons (.str _) .nil), .tup (SqT.of eP') (.cons (.str _) .nil), by decide +kernel, by decide +kernel, ?_⟩
      walk_at "rds"
      refine rd_ite (fun h => absurd h (by decide +kernel)) (fun _ => ?_)
      clear eP eP' eP2 sP sP' sG s0 sAll xx
      walk_at "rds"
      refine ⟨hT13, fun H14x xx hTx => ?_⟩
      refine rd_tt ?_
      walk_at "rds"
      have ho14 : OddL H14x D L l := hol13.kt ((KT.of (same_refl _)).trans (KT.ext xx))
      refine mk_letters (mg := mg) ho14.txt ho14.no fun G0 s0 => letters_caught fun p G sG nG => ?_
      have sP : Same G (upd G p (.tup [.str (tx wL)])) := same_upd nG
      have eP : upd G p (.tup [.str (tx wL)]) p = some (.tup [.str (tx wL)]) := upd_same
      generalize upd G p (.tup [.str (tx wL)]) = G1 at sP eP ⊢
      walk_at "rds"
      refine ⟨by show 1 ≤ sizeLine; decide, fun p' np' => ?_⟩
      have sP' : Same G1 (upd G1 p' (.tup [.str (tx wL)])) := same_upd np'
      have eP' : upd G1 p' (.tup [.str (tx wL)]) p' = some (.tup [.str (tx wL)]) := upd_same
      have eP2 := sP' _ _ eP
      have sAll := same_trans s0 (same_trans sG (same_trans sP sP'))
      generalize upd G1 p' (.tup [.str (tx wL)]) = H14 at sAll eP' eP2 ⊢
      have hD14 := (deal_ext hD13 xx).keep sAll
      have hT14 := tabs_same sAll hTx
      have k14 := k13.trans ((KT.ext xx).trans (KT.of sAll))
      have hol14 := ho14.kt (KT.of sAll)
      clear hTx
      walk_at "rds"
      refine ⟨.tuple [.str (tx wL)], .tuple [.str (tx wL)], .tup (SqT.of eP2) (.cons (.str _) .nil), .tup (SqT.of eP') (.cons (.str _) .nil), by decide +kernel, by decide +kernel, ?_⟩
      walk_at "rds"
      refine rd_ite (fun h => absurd h (by decide +kernel)) (fun _ => ?_)
      clear eP eP' eP2 sP sP' sG s0 sAll xx
      walk_at "rd"
      walk_at "rd"
      walk_at "rd"
      walk_at "rd"
      have ha14 : H14 a = some (.lst us) := (k6.trans k14) _ _ ha haD haL fun _ z => by cases z
      have er14 : H14 r = some (.lst (us.take n ++ [.ref T1] ++ us.drop n ++ [.ref T2])) := k14 _ _ (s6 _ _ er) hrD hrL fun _ z => by cases z
      have et1 : H14 T1 = some (.tup [x, y]) := k14 _ _ (s6 _ _ eT1) hTD hTL fun _ z => by cases z
      have et2 : H14 T2 = some (.tup [.non, .non]) := k14 _ _ (s6 _ _ eT2) hT2D hT2L fun _ z => by cases z
      refine build rfl rfl rfl rfl (SqL.of ha14) (by omega) (fun r' T1' T2' H15 s15 nr' nT1' nT2' er' eT1' eT2' => ?_)
      have hp15 : Prs H15 ms us := prs_kt hD ((k6.trans k14).trans (KT.of s15)) hpr
      obtain ⟨⟨dx, hdx⟩, ⟨dy, hdy⟩⟩ := (hkv.kt ((k46.trans k14).trans (KT.of s15))).dp (K := K) (by omega) hlt
      have ok : ∀ q ∈ ms, OkP q := fun q hq => by
        obtain ⟨h1, h2, h3, h4⟩ := hov q hq
        exact ⟨by omega, fun c hc => hlt c (h1.1 c hc), by omega⟩
      have gd : ∀ d ∈ (ms.map pD).take n ++ [.tuple [dx, dy]] ++ (ms.map pD).drop n ++ [.tuple [.none, .none]], GoodZ 2 500 d ∧ d.canLay0 = true := fun d hd => by
        have pd : d ∈ ms.map pD → GoodZ 2 500 d ∧ d.canLay0 = true := fun h => by
          obtain ⟨q, hq, rfl⟩ := List.mem_map.mp h
          exact ⟨(pair_good (ok q hq)).mono (by decide) (by decide), lay_tup (two_mem (lay_str (ok q hq).c) rfl)⟩
        simp only [List.mem_append, List.mem_singleton] at hd
        rcases hd with ((h | rfl) | h) | rfl
        · exact pd (List.mem_of_mem_take h)
        · exact ⟨(tup_good (two_mem hdx.2.1 hdy.2.1)).mono (by decide) (by simp), lay_tup (two_mem hdx.2.2 hdy.2.2)⟩
        · exact pd (List.mem_of_mem_drop h)
        · exact ⟨(tup_good (two_mem non_good non_good)).mono (by decide) (by simp), rfl⟩
      have sh := shaped_good (list_good fun d hd => (gd d hd).1) (by decide) (lay_list fun d hd => (gd d hd).2)
      have dp : ∀ {t1 t2 : Addr}, H15 t1 = some (.tup [x, y]) → H15 t2 = some (.tup [.non, .non]) → DpAll K H15 (us.take n ++ [.ref t1] ++ us.drop n ++ [.ref t2]) ((ms.map pD).take n ++ [.tuple [dx, dy]] ++ (ms.map pD).drop n ++ [.tuple [.none, .none]]) := fun {t1 t2} h1 h2 =>
        dpAll_app (dpAll_app (dpAll_app (dpAll_take n hp15.dp) (.cons (.tup (SqT.of h1) (.cons hdx.1 (.cons hdy.1 .nil))) .nil)) (dpAll_drop n hp15.dp)) (.cons (.tup (SqT.of h2) (.cons .non (.cons .non .nil))) .nil)
      refine ⟨_, _, .lst (SqL.of (s15 _ _ er14)) (dp (s15 _ _ et1) (s15 _ _ et2)), .lst (SqL.of er') (dp eT1' eT2'), sh, sh, ?_⟩
      rw [SeqAt.eqv_refl _ (SeqAt.canLay_of_shaped sh)]
      exact q H15 ((k6.trans k14).trans (KT.of s15)) (hD14.keep s15) (tabs_same s15 hT14)
end
section
variable {P : Program} {w : World} {K : PySem.W.Frag} {mg : Str → Option Value} {base : Heap}
theorem ascB_of : ∀ {u : List Nat}, u.Pairwise (· < ·) → ascB u = true
  | [], _ => rfl
  | [a], _ => rfl
  | a :: b :: r, h => by
    have h1 : a < b := (List.pairwise_cons.mp h).1 b List.mem_cons_self
    have ih := ascB_of (u := b :: r) (List.pairwise_cons.mp h).2
    unfold ascB at ih ⊢
    show (((a, b) :: (b :: r).zip r).all fun p => decide ([p.1] < [p.2])) = true
    rw [List.all_cons, Bool.and_eq_true]
    refine ⟨decide_eq_true (List.cons_lt_cons_iff.mpr (.inl h1)), ?_⟩
    exact ih
theorem areB_of {u : List Nat} (h1 : 2 ≤ u.length) (h2 : u.length ≤ 5) (h3 : ∀ c ∈ u, c ∈ alphabet) (h4 : u.Pairwise (· < ·)) : areB u = true := by
  unfold areB consB
  rw [decide_eq_true h1, decide_eq_true h2, ascB_of h4, Bool.true_and, Bool.true_and, Bool.and_true, List.all_eq_true]
  exact fun c hc => decide_eq_true (h3 c hc)
theorem Deal.none {D L p : Addr} {H : Hp} (h : Deal D L H) (n : H p = none) : p ≠ D ∧ p ≠ L := h.new n
theorem Deal.aside {D L p : Addr} {H : Hp} {o : HO} (d : Deal D L H) (h : p ≠ D ∧ p ≠ L) : Deal D L (upd H p o) := by
  obtain ⟨cs, m, a, b, c⟩ := d
  exact ⟨cs, m, by rw [upd_ne h.1.symm]; exact a, by rw [upd_ne h.2.symm]; exact b, c⟩
theorem mem_putT {m : Tab} {k : List Nat} {v : Int} {q : List Nat × Int} (h : q ∈ putT m k v) : q ∈ m ∨ (q.1 = k ∧ q.2 = v) := by
  unfold putT at h
  split at h
  · obtain ⟨p, hp, rfl⟩ := List.mem_map.mp h
    split
    · rename_i e
      exact .inr ⟨e, rfl⟩
    · exact .inl hp
  · rcases List.mem_append.mp h with h | h
    · exact .inl h
    · rw [List.mem_singleton.mp h]
      exact .inr ⟨rfl, rfl⟩
theorem mem_putsP {q : List Nat × Int} : ∀ {ps m : Tab}, q ∈ putsP m ps → q ∈ m ∨ ∃ p ∈ ps, q.1 = p.1 ∧ q.2 = p.2
  | [], m, h => .inl h
  | p :: r, m, h => by
    rcases mem_putsP (ps := r) (m := putT m p.1 p.2) h with h | ⟨p', hp, e⟩
    · rcases mem_putT h with h | h
      · exact .inl h
      · exact .inr ⟨p, List.mem_cons_self, h⟩
    · exact .inr ⟨p', List.mem_cons_of_mem _ hp, e⟩
theorem St.kt {D L a d : Addr} {C : Addr} {H H' : Hp} {ls : List Nat} {m : Tab} (h : St C H a d ls m) (k : KT D L H H') (h1 : a ≠ D) (h2 : a ≠ L) (h3 : d ≠ D) (h4 : d ≠ L) : St C H' a d ls m := by
  obtain ⟨dx, ho⟩ := h.o
  exact ⟨⟨dx, k _ _ ho h1 h2 fun _ z => by cases z⟩, k _ _ h.t h3 h4 fun _ z => by cases z⟩
theorem mk_good {H : Hp} {ls : List Nat} {us : List V} {ms : Tab} {p : Addr} {Q : Addr → Hp → Prop} {E : XK} (hls : areB ls = true) (hz : ls.length ≤ 1000) (hp : Seq1 K H p us) (hpr : Prs H ms us) (hms : ms.length ≤ 500) (hov : ∀ q ∈ ms, Ov ls q.1 ∧ 0 ≤ q.2)
    (q : ∀ x d H', Same H H' → H x = none → H d = none → St (SC mg) H' x d ls (putsP [] ms) → Q x H') :
    ∀ a dx, H a = none → H dx = none → dx ≠ a → spI K mg [.ref a, .str (tx ls), .ref p] (upd (upd H dx (.own a)) a (.ins (SC mg) dx [])) (fun v H2 => v = .non ∧ Q a H2) E := by
  intro a dx ha hdx hne
  have s1 : Same H (upd (upd H dx (.own a)) a (.ins (SC mg) dx [])) := mk_same ha hdx rfl fun _ _ h _ => h
  refine ⟨a, dx, p, .str (tx ls), rfl, upd_same, .inl ⟨ls, rfl, hz⟩, fun h => ?_, fun _ => ⟨ls, us, ms, rfl, hz, hp.keep fun o _ h => s1 _ _ h, hms, hov, .inl ⟨hpr.same s1, fun d H' k hd hda hx ht => ⟨rfl, ?_⟩⟩⟩⟩
  · rw [areV_tx, hls] at h
    cases h
  · exact q a d H' (mk_same ha hdx rfl k) ha (same_none s1 hd) ⟨⟨dx, hx⟩, ht⟩
theorem St.ext' {C : Addr} {H H' : Hp} {a d : Addr} {ls : List Nat} {m : Tab} (h : St C H a d ls m) (k : ExtN H H') : St C H' a d ls m := by
  obtain ⟨dx, ho⟩ := h.o
  exact ⟨⟨dx, k _ _ ho fun _ z => by cases z⟩, k _ _ h.t fun _ z => by cases z⟩
structure Now (mg : Str → Option Value) (P1 P2 D L st d : Addr) (ls : List Nat) (m : Tab) (x y : V) (H : Hp) : Prop where
  hd : Deal D L H
  hT : LamX.Tabs (TL P1 P2) H
  hS : St (SC mg) H st d ls m
  hx : OddKey H D L ls x
  hy : OddVal H D L y
structure Far (D L st d : Addr) : Prop where
  a : st ≠ D
  b : st ≠ L
  c : d ≠ D
  e : d ≠ L
theorem Now.kt {P1 P2 D L st d : Addr} {ls : List Nat} {m : Tab} {x y : V} {H H' : Hp} (h : Now mg P1 P2 D L st d ls m x y H) (f : Far D L st d) (k : KT D L H H') (hd : Deal D L H') (hT : LamX.Tabs (TL P1 P2) H') : Now mg P1 P2 D L st d ls m x y H' :=
  ⟨hd, hT, h.hS.kt k f.a f.b f.c f.e, h.hx.kt k, h.hy.kt k⟩
/-- behind a lambda that was handed on: the tables have grown, an error was caught, a tuple made of it -/
theorem Now.lam {P1 P2 D L st d p : Addr} {ls : List Nat} {m : Tab} {x y : V} {H H1 G : Hp} {o : HO} (h : Now mg P1 P2 D L st d ls m x y H) (f : Far D L st d) (xx : ExtN H H1) (hT : LamX.Tabs (TL P1 P2) H1) (s : Same H1 G) (n : G p = none) :
    Now mg P1 P2 D L st d ls m x y (upd G p o) ∧ KT D L H (upd G p o) ∧ (upd G p o) p = some o ∧ p ≠ D ∧ p ≠ L ∧ Same G (upd G p o) := by
  have s1 : Same H1 (upd G p o) := same_trans s (same_upd n)
  have k : KT D L H (upd G p o) := (KT.ext xx).trans (KT.of s1)
  have hd1 := (deal_ext h.hd xx).keep s
  exact ⟨h.kt f k (hd1.keep (same_upd n)) (tabs_same s1 hT), k, upd_same, (hd1.new n).1, (hd1.new n).2, same_upd n⟩
theorem Now.same {P1 P2 D L st d : Addr} {ls : List Nat} {m : Tab} {x y : V} {H H' : Hp} (h : Now mg P1 P2 D L st d ls m x y H) (f : Far D L st d) (s : Same H H') : Now mg P1 P2 D L st d ls m x y H' :=
  h.kt f (KT.of s) (h.hd.keep s) (tabs_same s h.hT)
theorem Now.new {P1 P2 D L st d p : Addr} {ls : List Nat} {m : Tab} {x y : V} {H : Hp} {o : HO} (h : Now mg P1 P2 D L st d ls m x y H) (f : Far D L st d) (n : H p = none) :
    Now mg P1 P2 D L st d ls m x y (upd H p o) ∧ Same H (upd H p o) ∧ (upd H p o) p = some o ∧ p ≠ D ∧ p ≠ L :=
  ⟨h.same f (same_upd n), same_upd n, upd_same, (h.hd.new n).1, (h.hd.new n).2⟩
theorem KT.mut {D L p : Addr} {H G : Hp} {o : HO} (k : KT D L H G) (n : H p = none) : KT D L H (upd G p o) := fun b u e h1 h2 h3 => by
  rw [upd_ne (ne_of_none e n)]
  exact k b u e h1 h2 h3
theorem tabs_mut {T : List (Addr × Str)} {H : Hp} {p : Addr} {xs ys : List V} (h : LamX.Tabs T H) (e : H p = some (.lst xs)) : LamX.Tabs T (upd H p (.lst ys)) := by
  have st : ∀ {b o}, H b = some o → (∀ xs, o ≠ .lst xs) → upd H p (.lst ys) b = some o := fun {b o} e1 n => by
    rw [upd_ne fun z => by
      rw [z, e] at e1
      exact n _ (Option.some.inj e1).symm]
    exact e1
  intro q hq
  obtain ⟨ps, e1, e2, e3⟩ := h q hq
  refine ⟨ps, st e1 (fun _ z => by cases z), e2, fun pos cv hc => ?_⟩
  obtain ⟨c, rfl, hc'⟩ := e3 pos cv hc
  exact ⟨c, rfl, st hc' fun _ z => by unfold LamX.CodeO at z; cases z⟩
theorem in_no {ls : List Nat} {m : Tab} {x : V} (h : isTxtB ls x = false) : inB ls m x = false := by
  cases x with
  | str z => exact Bool.and_eq_false_iff.mpr (.inl h)
  | _ => rfl
theorem in_none {ls : List Nat} {m : Tab} {t : List Nat} (h : t ∉ keysT m) : inB ls m (.str (tx t)) = false := by
  show (isTxtB ls (.str (tx t)) && decide ((tx t).cps.toList ∈ keysT m)) = false
  rw [tx_cps, decide_eq_false h, Bool.and_false]
theorem tup_g {wd : List Nat} {dz : PyData} (h : wd.length ≤ 10 ∧ ∀ c ∈ wd, c < 1000) (g : GoodZ 1 100 dz) : GoodZ 2 300 (.tuple [.str (tx wd), dz]) :=
  (tup_good (two_mem ((str_good h.2).mono (by decide) (by omega)) g)).mono (by decide) (by simp)
abbrev wK : List Nat := [107, 101, 121]
def spLaw (K : PySem.W.Frag) (P1 P2 : Addr) : Sp := fun vs H Q _ => ∃ (a : Addr) (ns : List Int), vs = [.ref a] ∧ SqL K H a (ns.map V.int) ∧ ns.length ≤ 63 ∧ LamX.Tabs (TL P1 P2) H ∧ ∀ H', Q (.bl true) H'
set_option maxHeartbeats 4000000 in
theorem ok_law (T : Txt K mg) (Z : Xt K mg) {c1 c2 P1 P2 : Addr} (aC : AtC K mg "_law_pairs_right" s__law_pairs_right ["_law_deal_here", "_law_letters_here", "_law_pairs"] c1) (TB1 : LamX.TabB base mg c1 P1) (TB : LamX.TabB base mg c2 P2) (hP : P1 ≠ P2)
    {f : Addr} {fd : FuncData} (F : FunC K "law" "law" s_law f fd c2) : FnG P w K mg base 11 f fd ["_law_script"] (spLaw K P1 P2) := by
  have C__law_deal := cl_deal (P := P) (w := w) (base := base) T
  have C__law_draw := cl_draw (P := P) (w := w) (base := base) T
  have C__law_letters := cl_letters (P := P) (w := w) (base := base) T
  have C__law_text := cl_text (P := P) (w := w) (base := base) T
  have C__law_value := cl_value (P := P) (w := w) (base := base) T
  have C__law_odd_key := cl_oddk (P := P) (w := w) (base := base) T
  have C__law_odd_value := cl_oddv (P := P) (w := w) (base := base) T
  have C__law_pairs_right := cl_pairsr (P := P) (w := w) (base := base) T Z aC TB1 hP
  have C__law_put := clx_put (P := P) (w := w) (base := base) T
  have C__law_got := clx_got (P := P) (w := w) (base := base) T
  have C_Store_2 := mk_Store_2 (P := P) (w := w) (base := base) T
  have C_Store_pairs_1 := at_pairs_1 (P := P) (w := w) (base := base) T
  have C_Store_fill_4 := at_fill_4 (P := P) (w := w) (base := base) T
  have C_Store_fill_k4 := at_fill_k4 (P := P) (w := w) (base := base) T
  have C_Store___contains__ := met_in (P := P) (w := w) (base := base) T
  have hmT : (P2, Q2) ∈ TL P1 P2 := List.mem_cons_of_mem _ List.mem_cons_self
  have hu : ∀ p ∈ TL P1 P2, p.1 = P2 → p.2 = Q2 := fun p hp e => by
    rcases List.mem_cons.mp hp with rfl | hp
    · exact absurd e hP
    · rw [List.mem_singleton.mp hp]
  refine okGC F sc_law (fun vs H Q E h => ?_) (fun A outer s H vs Q E hgd hr h => ?_)
  · obtain ⟨a, ns, rfl, _⟩ := h
    rfl
  · obtain ⟨a, ns, rfl, ha, hns, hT, q⟩ := h
    refine ⟨_, (pss_cons (ps_set (i := 1) sc_law.nd rfl (Or.inr rfl) (pe_cl C__law_deal (hr.mono (by decide)) (by rfl) (pa_cons (pv 0) (pa_cons pe_int pa_nil))))
      (Evl.pss_cut (ps_for PassesOwn.never rfl (pi_range1 (by rfl) T.m_range (pa_cons pe_int pa_nil)) (pg_name (i := 2) sc_law.nd rfl (Or.inl rfl))
      (pss_cons (ps_set (i := 3) sc_law.nd rfl (Or.inr rfl) (pe_cl C__law_letters (hr.mono (by decide)) (by rfl) (pa_cons (pv 1) (pa_cons pe_int pa_nil))))
      (pss_cons (ps_setLc (i := 4) (own := [("_law_again", 14)]) (g := gName 14) (tt := tYes) (by rfl) sc_law.nd rfl rfl (sw_true rfl rfl rfl (by decide +kernel)) (pi_range1 (by rfl) T.m_range (pa_cons (pe_cl C__law_draw (hr.mono (by decide)) (by rfl) (pa_cons (pv 1) (pa_cons pe_int pa_nil))) pa_nil)) (blkOk_by (own := [("_law_again", 14)]) (N := n_law) (sc := defScope s_law) (by decide +kernel)) (fun _ _ _ _ _ => (pg_name (i := 14) sc_law.nd rfl (Or.inl rfl))) (fun _ _ _ _ _ => pts_nil) (fun _ _ _ _ _ => (pe_tup (pa_cons (pe_cl C__law_text (hr.mono (by decide)) (by rfl) (pa_cons (pv 1) (pa_cons (pv 3) (pa_cons pe_int pa_nil)))) (pa_cons (pe_cl C__law_value (hr.mono (by decide)) (by rfl) (pa_cons (pv 1) pa_nil)) pa_nil)))))
      (pss_cons (ps_if (pt_not (pt_val (pe_clG C__law_pairs_right hgd (hr.mono (by decide)) (by rfl) (pa_cons (pv 1) (pa_cons (pv 3) (pa_cons (pv 4) pa_nil))))))
      (pss_one (ps_ret pe_bl))
      pss_nil)
      (pss_cons (ps_set (i := 12) sc_law.nd rfl (Or.inr rfl) (pe_mkDX C_Store_2 hr (by decide) (by rfl) takes0 (pa_cons (pv 3) (pa_cons (pv 4) pa_nil))))
      (pss_cons (ps_set (i := 5) sc_law.nd rfl (Or.inl rfl) (pe_callB (r := rReprZ K) (call_reprZ hgd hr) (by rfl) T.m_repr (by decide +kernel) (pa_cons (pe_mtD0 C_Store_pairs_1 hr (by decide) (pv 12)) pa_nil)))
      (pss_cons (ps_asg (pe_tup (pa_cons (pe_cl C__law_text (hr.mono (by decide)) (by rfl) (pa_cons (pv 1) (pa_cons (pv 3) (pa_cons pe_int pa_nil)))) (pa_cons (pe_cl C__law_value (hr.mono (by decide)) (by rfl) (pa_cons (pv 1) pa_nil)) pa_nil))) (pg_tup rfl (pgs_cons (pg_name (i := 10) sc_law.nd rfl (Or.inr rfl)) (pgs_cons (pg_name (i := 13) sc_law.nd rfl (Or.inr rfl)) pgs_nil))))
      (pss_cons (ps_asg (pe_tup (pa_cons (pe_cl C__law_odd_key (hr.mono (by decide)) (by rfl) (pa_cons (pv 1) (pa_cons (pv 3) pa_nil))) (pa_cons (pe_cl C__law_odd_value (hr.mono (by decide)) (by rfl) (pa_cons (pv 1) pa_nil)) pa_nil))) (pg_tup rfl (pgs_cons (pg_name (i := 11) sc_law.nd rfl (Or.inr rfl)) (pgs_cons (pg_name (i := 9) sc_law.nd rfl (Or.inr rfl)) pgs_nil))))
      (pss_cons (ps_set (i := 6) sc_law.nd rfl (Or.inl rfl) (pe_lst (pa_cons (pe_lamG T.a__law_refused (by rfl) sc__law_refused rfl (.inl rfl) (fun g cdg => gives_law_refused T Z) TB rfl hmT hu hr (LamX.lamS_by (sc := defScope s_law) (by decide +kernel)) rfl (fun _ _ _ _ _ => rfl) (fun A outer s H E f c hr => (pe_clX C__law_put (hr.mono (by decide)) (by rfl) (takes_of rfl rfl rfl rfl) (pa_cons (pv 12) (pa_cons (pv 11) (pa_cons (pv 9) pa_nil)))))) pa_nil)))
      (pss_cons (ps_expr (pe_bm PySem.F.plainAttrs_list PySem.F.slot_list_append PySem.F.type_list_append mt_append (pv 6) (pa_cons (pe_lamG T.a__law_refused (by rfl) sc__law_refused rfl (.inl rfl) (fun g cdg => gives_law_refused T Z) TB rfl hmT hu hr (LamX.lamS_by (sc := defScope s_law) (by decide +kernel)) rfl (fun _ _ _ _ _ => rfl) (fun A outer s H E f c hr => (pe_clX C__law_put (hr.mono (by decide)) (by rfl) (takes_of rfl rfl rfl rfl) (pa_cons (pv 12) (pa_cons (pv 11) (pa_cons (pv 13) pa_nil)))))) pa_nil)))
      (pss_cons (ps_expr (pe_bm PySem.F.plainAttrs_list PySem.F.slot_list_append PySem.F.type_list_append mt_append (pv 6) (pa_cons (pe_lamG T.a__law_refused (by rfl) sc__law_refused rfl (.inl rfl) (fun g cdg => gives_law_refused T Z) TB rfl hmT hu hr (LamX.lamS_by (sc := defScope s_law) (by decide +kernel)) rfl (fun _ _ _ _ _ => rfl) (fun A outer s H E f c hr => (pe_clX C__law_put (hr.mono (by decide)) (by rfl) (takes_of rfl rfl rfl rfl) (pa_cons (pv 12) (pa_cons (pv 10) (pa_cons (pv 9) pa_nil)))))) pa_nil)))
      (pss_cons (ps_if (pt_cmpR op_ne (pe_callB (r := rReprZ K) (call_reprZ hgd hr) (by rfl) T.m_repr (by decide +kernel) (pa_cons (pv 6) pa_nil)) (pe_callB (r := rReprZ K) (call_reprZ hgd hr) (by rfl) T.m_repr (by decide +kernel) (pa_cons (pe_lst (pa_cons (pe_tup (pa_cons (pe_strX [116, 101, 120, 116] (by decide +kernel)) (pa_cons (pv 11) pa_nil))) (pa_cons (pe_tup (pa_cons (pe_strX [116, 101, 120, 116] (by decide +kernel)) (pa_cons (pv 11) pa_nil))) (pa_cons (pe_tup (pa_cons (pe_strX [118, 97, 108, 117, 101] (by decide +kernel)) (pa_cons (pv 9) pa_nil))) pa_nil)))) pa_nil)) (nomark _))
      (pss_one (ps_ret pe_bl))
      pss_nil)
      (pss_cons (ps_if (pt_cmpR op_ne (pe_callB (r := rReprZ K) (call_reprZ hgd hr) (by rfl) T.m_repr (by decide +kernel) (pa_cons (pe_lamG T.a__law_refused (by rfl) sc__law_refused rfl (.inl rfl) (fun g cdg => gives_law_refused T Z) TB rfl hmT hu hr (LamX.lamS_by (sc := defScope s_law) (by decide +kernel)) rfl (fun _ _ _ _ _ => rfl) (fun A outer s H E f c hr => (pe_mtDX C_Store_fill_4 hr (by decide) (takes_of rfl rfl rfl rfl) (pv 12) (pa_cons (pv 9) (pa_cons (pe_strX [] (by decide +kernel)) (pa_cons pe_non pa_nil)))))) pa_nil)) (pe_callB (r := rReprZ K) (call_reprZ hgd hr) (by rfl) T.m_repr (by decide +kernel) (pa_cons (pe_tup (pa_cons (pe_strX [118, 97, 108, 117, 101] (by decide +kernel)) (pa_cons (pv 9) pa_nil))) pa_nil)) (nomark _))
      (pss_one (ps_ret pe_bl))
      pss_nil)
      (pss_cons (ps_if (pt_cmpR op_ne (pe_callB (r := rReprZ K) (call_reprZ hgd hr) (by rfl) T.m_repr (by decide +kernel) (pa_cons (pe_lamG T.a__law_refused (by rfl) sc__law_refused rfl (.inl rfl) (fun g cdg => gives_law_refused T Z) TB rfl hmT hu hr (LamX.lamS_by (sc := defScope s_law) (by decide +kernel)) rfl (fun _ _ _ _ _ => rfl) (fun A outer s H E f c hr => (methN_GX C_Store_fill_k4 hr (by decide) (takes_of rfl rfl rfl rfl) (pv 12) (pa_cons (pv 9) (pa_cons (pv 10) (pa_cons (pv 10) pa_nil))) (pk_cons (pv 10) pk_nil)))) pa_nil)) (pe_callB (r := rReprZ K) (call_reprZ hgd hr) (by rfl) T.m_repr (by decide +kernel) (pa_cons (pe_tup (pa_cons (pe_strX [118, 97, 108, 117, 101] (by decide +kernel)) (pa_cons (pv 9) pa_nil))) pa_nil)) (nomark _))
      (pss_one (ps_ret pe_bl))
      pss_nil)
      (pss_cons (ps_if (PW.pt (pw_or (pt_cmpR op_ne (pe_callB (r := rReprZ K) (call_reprZ hgd hr) (by rfl) T.m_repr (by decide +kernel) (pa_cons (pe_lamG T.a__law_refused (by rfl) sc__law_refused rfl (.inl rfl) (fun g cdg => gives_law_refused T Z) TB rfl hmT hu hr (LamX.lamS_by (sc := defScope s_law) (by decide +kernel)) rfl (fun _ _ _ _ _ => rfl) (fun A outer s H E f c hr => (pe_clX C__law_got (hr.mono (by decide)) (by rfl) (takes_of rfl rfl rfl rfl) (pa_cons (pv 12) (pa_cons (pv 11) pa_nil))))) pa_nil)) (pe_callB (r := rReprZ K) (call_reprZ hgd hr) (by rfl) T.m_repr (by decide +kernel) (pa_cons (pe_tup (pa_cons (pe_strX [107, 101, 121] (by decide +kernel)) (pa_cons (pv 11) pa_nil))) pa_nil)) (nomark _)) (pw_or1 (pt_cmpR op_ne (pe_callB (r := rReprZ K) (call_reprZ hgd hr) (by rfl) T.m_repr (by decide +kernel) (pa_cons (pe_mtD0 C_Store_pairs_1 hr (by decide) (pv 12)) pa_nil)) (pv 5) (nomark _)))))
      (pss_one (ps_ret pe_bl))
      pss_nil)
      (pss_cons (ps_setLc (i := 8) (own := [("_law_text_here", 7)]) (g := gName 7) (by rfl) sc_law.nd rfl rfl (sw_true rfl rfl rfl (by decide +kernel)) (pi_tup (pe_tup (pa_cons (pe_strX [] (by decide +kernel)) (pa_cons (pe_ix ix_strX (pv 3) pe_int (fun _ _ => rfl)) (pa_cons (pe_ix ix_strX (pv 3) pe_int (fun _ _ => rfl)) (pa_cons (pe_op op_mulT (pe_ix ix_strX (pv 3) pe_int (fun _ _ => rfl)) pe_int) pa_nil)))))) (blkOk_by (own := [("_law_text_here", 7)]) (N := n_law) (sc := defScope s_law) (by decide +kernel)) (fun _ _ _ _ _ => (pg_name (i := 7) sc_law.nd rfl (Or.inl rfl))) (fun _ _ _ _ _ => (pts_one (pt_cmpR (notIn_G C_Store___contains__ hr (by decide)) (pv 7) (pv 12) (by rfl)))) (fun _ _ _ _ _ => (pv 7)))
      (pss_one (ps_for PassesOwn.never rfl (pi_list (pv 8)) (pg_name (i := 7) sc_law.nd rfl (Or.inr rfl))
      (pss_one (ps_if (pt_cmpR op_ne (pe_callB (r := rReprZ K) (call_reprZ hgd hr) (by rfl) T.m_repr (by decide +kernel) (pa_cons (pe_lamG T.a__law_refused (by rfl) sc__law_refused rfl (.inl rfl) (fun g cdg => gives_law_refused T Z) TB rfl hmT hu hr (LamX.lamS_by (sc := defScope s_law) (by decide +kernel)) rfl (fun _ _ _ _ _ => rfl) (fun A outer s H E f c hr => (pe_clX C__law_got (hr.mono (by decide)) (by rfl) (takes_of rfl rfl rfl rfl) (pa_cons (pv 12) (pa_cons (pv 7) pa_nil))))) pa_nil)) (pe_callB (r := rReprZ K) (call_reprZ hgd hr) (by rfl) T.m_repr (by decide +kernel) (pa_cons (pe_tup (pa_cons (pe_strX [107, 101, 121] (by decide +kernel)) (pa_cons (pv 7) pa_nil))) pa_nil)) (nomark _))
      (pss_one (ps_ret pe_bl))
      pss_nil))))))))))))))))))))
      (pss_one (ps_ret pe_bl)))), ?_⟩
    walk_at "rds"
    refine ⟨a, ns, 0, rfl, ha, hns, by omega, by omega, fun D L H1 nD nL s1 hd1 => ?_⟩
    have hT1 := tabs_same s1 hT
    walk_at "rds"
    refine rd_cut (fun σ' H' => True) ?_ (fun σ' H' _ => ?_)
    rotate_left
    · walk_at "rds"
      exact q _
    walk_at "rds"
    refine ⟨6, rfl, by decide, by decide, for_range (lo := 0) (n := (6 : Int).toNat) (fun i σ' H' => Deal D L H' ∧ LamX.Tabs (TL P1 P2) H' ∧ ∃ y2 y3 y4 y5 y6 y7 y8 y9 y10 y11 y12 y13 y14, σ' = [some (.ref a), some (.ref D), y2, y3, y4, y5, y6, y7, y8, y9, y10, y11, y12, y13, y14]) ⟨hd1, hT1, _, _, _, _, _, _, _, _, _, _, _, _, _, rfl⟩ ?_ ?_⟩
    rotate_left
    · rintro σ' H' _
      trivial
    rintro i σ' H0 hi ⟨hd0, hT0, y2, y3, y4, y5, y6, y7, y8, y9, y10, y11, y12, y13, y14, rfl⟩
    walk_at "rds"
    refine ⟨D, L, 5, rfl, hd0, by decide, by decide, fun ls H2 hl1 hl2 hup hmem kp2 hd2 => ?_⟩
    have hT2 := tabs_keep hd0 kp2 hT0
    have hhi : ls.length ≤ 5 := by omega
    have hne : ls ≠ [] := by
      rintro rfl
      simp at hl1
    have hare : areB ls = true := areB_of hl1 hhi hmem hup
    have hlt : ∀ c ∈ ls, c < 1000 := fun c hc => (by decide : ∀ c ∈ alphabet, c < 1000) c (hmem c hc)
    walk_at "rds"
    refine ⟨D, L, 6, rfl, hd2, by decide, by decide, fun j H3 hj1 hj2 kp3 hd3 => ?_⟩
    have hT3 := tabs_keep hd2 kp3 hT2
    obtain ⟨mn, rfl⟩ := Int.eq_ofNat_of_zero_le hj1
    walk_at "rds"
    refine ⟨_, rfl, by omega, by omega, fun e he => lc_range (n := ((mn : Nat) : Int).toNat) (fun i H' => Keep D L H3 H' ∧ Deal D L H' ∧ ∃ (ms : Tab) (us : List V), H' e = some (.lst us) ∧ Prs H' ms us ∧ ms.length = i ∧ ∀ q ∈ ms, Ov ls q.1 ∧ q.1.length ≤ 3 ∧ 0 ≤ q.2 ∧ q.2 < 10 ^ 18)
        ⟨Keep.new he, hd3.keep (same_upd he), [], [], upd_same, .nil, rfl, fun q hq => by cases hq⟩ ?_ ?_⟩
    · rintro i' H8 hi' ⟨kp8, hd8, ms, us, eu, pu, rfl, hms⟩
      rw [Int.toNat_natCast] at hi'
      have heD := hd3.none he
      walk_at "rds"
      refine ⟨rfl, ?_⟩
      walk_at "rds"
      refine rd_ite (fun _ => ?_) (fun h => by cases h)
      walk_at "rds"
      refine ⟨D, L, ls, 3, rfl, hd8, hne, by omega, by omega, by omega, fun t H9 ht1 ht2 kp9 hd9 => ?_⟩
      walk_at "rds"
      refine ⟨D, L, rfl, hd9, fun v H10 hv1 hv2 kp10 hd10 => ?_⟩
      walk_at "rds"
      refine ⟨by show 2 ≤ sizeLine; decide, fun p hp => ?_⟩
      have kp8' := kp9.trans kp10
      have eu10 := kp8' _ _ eu heD.1 heD.2
      have hpe : e ≠ p := fun z => by
        rw [z, hp] at eu10
        cases eu10
      refine ⟨us, by rw [upd_ne hpe]; exact eu10, by rw [← pu.len]; exact small1000 (by omega), ((kp8.trans kp8').trans (Keep.new hp)).mut he, (hd10.keep (same_upd hp)).aside heD, ms ++ [(t, v)], _, upd_same, ?_, by simp, ?_⟩
      · have p10 := prs_kt hd8 (KT.keep kp8') pu
        refine (p10.keep fun T l h => ?_).app (Prs.one ?_)
        · have n1 : T ≠ e := fun z => by
            rw [z, eu10] at h
            cases h
          have n2 : T ≠ p := fun z => by
            rw [z, hp] at h
            cases h
          rw [upd_ne n1, upd_ne n2]
          exact h
        · rw [upd_ne hpe.symm, upd_same]
      · intro q hq
        rcases List.mem_append.mp hq with hq | hq
        · exact hms q hq
        · rw [List.mem_singleton.mp hq]
          exact ⟨⟨ht1, by show t.length ≤ 1000; omega⟩, by show t.length ≤ 3; omega, hv1, hv2⟩
    · rintro H4 ⟨kp4, hd4, ms, us, eu, pu, hml, hms⟩
      rw [Int.toNat_natCast] at hml
      have hT4 := tabs_keep hd3 kp4 hT3
      obtain ⟨heD, heL⟩ := hd3.none he
      walk_at "rds"
      refine ⟨D, L, e, ls, us, ms, rfl, hd4, hare, hup, hl1, hhi, hmem, heD, heL, eu, pu, hms, by omega, hT4, fun H5 k5 hd5 hT5 => ?_⟩
      walk_at "rds"
      refine rd_ite (fun h => by cases h) (fun _ => ?_)
      walk_at "rds"
      have eu5 := k5 _ _ eu heD heL fun _ z => by cases z
      refine mk_good (mg := mg) hare (by omega) (.inl (SqL.of eu5)) (prs_kt hd4 k5 pu) (by omega) (fun q hq => ⟨(hms q hq).1, (hms q hq).2.2.1⟩) (fun st d H6 s6 nst nd hS => ?_)
      have hd6 := hd5.keep s6
      have hT6 := tabs_same s6 hT5
      obtain ⟨stD, stL⟩ := hd5.new nst
      obtain ⟨dD, dL⟩ := hd5.new nd
      have hml2 := putsP_len ms []
      rw [List.length_nil] at hml2
      have hok : ∀ q ∈ putsP [] ms, OkP q := fun q hq => by
        rcases mem_putsP hq with h | ⟨p, hp, e1, e2⟩
        · cases h
        · obtain ⟨h1, h2, h3, h4⟩ := hms p hp
          exact ⟨by rw [e1]; omega, fun c hc => hlt c (h1.1 c (by rw [← e1]; exact hc)), by rw [e2]; omega⟩
      generalize hm : putsP [] ms = m at hS hml2 hok
      clear pu hms hm eu5 eu kp4 kp3 kp2 hd4 hd3 hd2 k5 hd5 s6 hd0 hT0 hT2 hT3 hT4 hT5
      have hfar : Far D L st d := ⟨stD, stL, dD, dL⟩
      obtain ⟨sdx, hso⟩ := hS.o
      walk_at "rds"
      refine ⟨st, _, _, rfl, hso, rfl, ?_⟩
      walk_at "rds"
      refine ⟨st, d, ls, m, [], none, none, rfl, hS, by omega, fun ks r us7 H7 hks s7 nr er pr => ?_⟩
      have gA : GoodZ 20 200000 (plD (prT m ks)) := (plD_good (prT_ok hok fun k h => hks.mem h) (by rw [prT_len]; have := hks.len; omega)).mono (by decide) (by decide)
      walk_at "rds"
      refine rd_reprZ (Prs.list er pr) gA ?_
      have hd7 := hd6.keep s7
      have hT7 := tabs_same s7 hT6
      have hS7 := hS.same s7
      clear er pr nr s7 hd6 hT6 hS
      walk_at "rds"
      refine ⟨D, L, ls, 3, rfl, hd7, hne, by omega, by omega, by omega, fun t H8 ht1 ht2 kp8 hd8 => ?_⟩
      walk_at "rds"
      refine ⟨D, L, rfl, hd8, fun v H9 hv1 hv2 kp9 hd9 => ?_⟩
      walk_at "rds"
      refine ⟨by show 2 ≤ sizeLine; decide, fun pA nA => rd_gtup (SqT.of upd_same) rfl ?_⟩
      have kpA : Keep D L H9 (upd H9 pA (.tup [.str (tx t), .int v])) := Keep.new nA
      have hdA := hd9.keep (same_upd (o := .tup [.str (tx t), .int v]) nA)
      generalize upd H9 pA (.tup [.str (tx t), .int v]) = HA at *
      walk_at "rds"
      refine ⟨D, L, ls, rfl, hdA, hl1, hhi, hmem, fun x H10 hx kp10 hd10 => ?_⟩
      walk_at "rds"
      refine ⟨D, L, rfl, hd10, fun y H11 hy kp11 hd11 => ?_⟩
      walk_at "rds"
      refine ⟨by show 2 ≤ sizeLine; decide, fun pB nB => rd_gtup (SqT.of upd_same) rfl ?_⟩
      have kpB : Keep D L H11 (upd H11 pB (.tup [x, y])) := Keep.new nB
      have kp7 := (kp8.trans kp9).trans ((kpA.trans kp10).trans (kp11.trans kpB))
      have hdB := hd11.keep (same_upd (o := .tup [x, y]) nB)
      have N11 : Now mg P1 P2 D L st d ls m x y (upd H11 pB (.tup [x, y])) := ⟨hdB, tabs_keep hd7 kp7 hT7, hS7.kt (KT.keep kp7) stD stL dD dL, hx.kt (KT.keep (kp11.trans kpB)), hy.kt (KT.keep kpB)⟩
      generalize upd H11 pB (.tup [x, y]) = HB at *
      clear kp7 kp8 kp9 kp10 kp11 kpA kpB hd8 hd9 hd10 hd7 hT7 hS7 hx hy hd11 hdA hdB nA nB
      walk_at "rds"
      -- the first refusal
      refine ⟨N11.hT, fun H12 x12 hT12 => ?_⟩
      refine rd_tt ?_
      walk_at "rds"
      refine ⟨st, d, ls, m, x, y, rfl, St.ext' N11.hS x12, (N11.hx.kt (KT.ext x12)).txt, (N11.hy.kt (KT.ext x12)).num, by omega, .inl ⟨N11.hx.no, fun d1 G1 sG1 eG1 => .inl ⟨x, d1, rfl, rfl, eG1, fun p1 G2 sG2 nG2 => ?_⟩⟩⟩
      obtain ⟨N13, k13, e13, p1D, p1L, sp1⟩ := N11.lam (o := .tup [.str (tx wT), x]) hfar x12 hT12 (same_trans sG1 sG2) nG2
      generalize upd G2 p1 (.tup [.str (tx wT), x]) = H13 at *
      clear x12 hT12 sG1 eG1 sG2 nG2 sp1
      walk_at "rds"
      refine ⟨by show 1 ≤ sizeLine; decide, fun fl nfl => ?_⟩
      obtain ⟨N14, s14, e14, flD, flL⟩ := N13.new (o := .lst [.ref p1]) hfar nfl
      have k14 : KT D L H13 (upd H13 fl (.lst [.ref p1])) := KT.of s14
      generalize upd H13 fl (.lst [.ref p1]) = H14 at *
      walk_at "rds"
      refine rd_tyL (SqL.of e14) ?_
      walk_at "rds"
      -- the second
      refine ⟨N14.hT, fun H15 x15 hT15 => ?_⟩
      refine rd_tt ?_
      walk_at "rds"
      refine ⟨st, d, ls, m, x, .int v, rfl, St.ext' N14.hS x15, (N14.hx.kt (KT.ext x15)).txt, .inl ⟨v, rfl⟩, by omega, .inl ⟨N14.hx.no, fun d2 G1 sG1 eG1 => .inl ⟨x, d2, rfl, rfl, eG1, fun p2 G2 sG2 nG2 => ?_⟩⟩⟩
      obtain ⟨N16, k16, e16, p2D, p2L, sp2⟩ := N14.lam (o := .tup [.str (tx wT), x]) hfar x15 hT15 (same_trans sG1 sG2) nG2
      generalize upd G2 p2 (.tup [.str (tx wT), x]) = H16 at *
      clear x15 hT15 sG1 eG1 sG2 nG2 sp2
      have fl16 : H16 fl = some (.lst [.ref p1]) := k16 _ _ e14 flD flL fun _ z => by cases z
      have g16 : H16 p1 = some (.tup [.str (tx wT), x]) := (k14.trans k16) _ _ e13 p1D p1L fun _ z => by cases z
      have nep : ∀ {q : Addr} {l : List V} {G : Hp}, G q = some (.tup l) → (∃ us, G fl = some (.lst us)) → q ≠ fl := fun {q l G} h1 ⟨us, h2⟩ z => by
        rw [z, h2] at h1
        cases h1
      walk_at "rds"
      refine rd_app fl16 (by show 1 < sizeLine; decide) ?_
      have k17 : KT D L H13 (upd H16 fl (.lst ([.ref p1] ++ [.ref p2]))) := (k14.trans k16).mut nfl
      have e17 : upd H16 fl (.lst ([.ref p1] ++ [.ref p2])) fl = some (.lst ([.ref p1] ++ [.ref p2])) := upd_same
      have a17 : upd H16 fl (.lst ([.ref p1] ++ [.ref p2])) p1 = some (.tup [.str (tx wT), x]) := by rw [upd_ne (nep g16 ⟨_, fl16⟩)]; exact g16
      have b17 : upd H16 fl (.lst ([.ref p1] ++ [.ref p2])) p2 = some (.tup [.str (tx wT), x]) := by rw [upd_ne (nep e16 ⟨_, fl16⟩)]; exact e16
      have N17 := N13.kt hfar k17 (N16.hd.aside ⟨flD, flL⟩) (tabs_mut N16.hT fl16)
      generalize upd H16 fl (.lst ([.ref p1] ++ [.ref p2])) = H17 at *
      clear N14 s14 k14 e14 N16 k16 e16 fl16 g16
      walk_at "rds"
      refine rd_tyL (SqL.of e17) ?_
      walk_at "rds"
      -- the third
      refine ⟨N17.hT, fun H18 x18 hT18 => ?_⟩
      refine rd_tt ?_
      walk_at "rds"
      refine ⟨st, d, ls, m, .str (tx t), y, rfl, St.ext' N17.hS x18, .inl ⟨t, rfl, by omega⟩, (N17.hy.kt (KT.ext x18)).num, by omega, .inr ⟨isTxt_ov ⟨ht1, by omega⟩, N17.hy.no, fun d2 G1 sG1 eG1 => .inr (.inl ⟨y, d2, rfl, rfl, eG1, fun p3 G2 sG2 nG2 => ?_⟩)⟩⟩
      obtain ⟨N19, k19, e19, p3D, p3L, sp3⟩ := N17.lam (o := .tup [.str (tx wV), y]) hfar x18 hT18 (same_trans sG1 sG2) nG2
      generalize upd G2 p3 (.tup [.str (tx wV), y]) = H19 at *
      clear x18 hT18 sG1 eG1 sG2 nG2 sp3
      have fl19 : H19 fl = some (.lst [.ref p1, .ref p2]) := k19 _ _ e17 flD flL fun _ z => by cases z
      have a19 : H19 p1 = some (.tup [.str (tx wT), x]) := k19 _ _ a17 p1D p1L fun _ z => by cases z
      have b19 : H19 p2 = some (.tup [.str (tx wT), x]) := k19 _ _ b17 p2D p2L fun _ z => by cases z
      walk_at "rds"
      refine rd_app fl19 (by show 2 < sizeLine; decide) ?_
      have k20 : KT D L H13 (upd H19 fl (.lst ([.ref p1, .ref p2] ++ [.ref p3]))) := (k17.trans k19).mut nfl
      have e20 : upd H19 fl (.lst ([.ref p1, .ref p2] ++ [.ref p3])) fl = some (.lst [.ref p1, .ref p2, .ref p3]) := upd_same
      have a20 : upd H19 fl (.lst ([.ref p1, .ref p2] ++ [.ref p3])) p1 = some (.tup [.str (tx wT), x]) := by rw [upd_ne (nep a19 ⟨_, fl19⟩)]; exact a19
      have b20 : upd H19 fl (.lst ([.ref p1, .ref p2] ++ [.ref p3])) p2 = some (.tup [.str (tx wT), x]) := by rw [upd_ne (nep b19 ⟨_, fl19⟩)]; exact b19
      have c20 : upd H19 fl (.lst ([.ref p1, .ref p2] ++ [.ref p3])) p3 = some (.tup [.str (tx wV), y]) := by rw [upd_ne (nep e19 ⟨_, fl19⟩)]; exact e19
      have N20 := N13.kt hfar k20 (N19.hd.aside ⟨flD, flL⟩) (tabs_mut N19.hT fl19)
      generalize upd H19 fl (.lst ([.ref p1, .ref p2] ++ [.ref p3])) = H20 at *
      clear k17 e17 a17 b17 N17 N19 k19 e19 fl19 a19 b19 k20 N13 e13 N11 k13 nep
      obtain ⟨dx, hdx, gdx, ldx⟩ := N20.hx.dp (K := K) hhi hlt
      obtain ⟨dy, hdy, gdy, ldy⟩ := N20.hy.dp (K := K)
      have gT : GoodZ 2 300 (.tuple [.str (tx wT), dx]) := tup_g (by decide) gdx
      have gV : GoodZ 2 300 (.tuple [.str (tx wV), dy]) := tup_g (by decide) gdy
      have gF : GoodZ 20 200000 (.list [.tuple [.str (tx wT), dx], .tuple [.str (tx wT), dx], .tuple [.str (tx wV), dy]]) := (list_good (z := 2) (w := 300) fun q hq => by
        simp only [List.mem_cons, List.not_mem_nil, or_false] at hq
        rcases hq with rfl | rfl | rfl
        · exact gT
        · exact gT
        · exact gV).mono (by decide) (by simp)
      walk_at "rds"
      refine rd_reprZ (.lst (SqL.of e20) (.cons (.tup (SqT.of a20) (.cons (.str _) (.cons hdx .nil))) (.cons (.tup (SqT.of b20) (.cons (.str _) (.cons hdx .nil))) (.cons (.tup (SqT.of c20) (.cons (.str _) (.cons hdy .nil))) .nil)))) gF ?_
      walk_at "rds"
      refine ⟨by show 2 ≤ sizeLine; decide, fun q1 nq1 => ?_⟩
      obtain ⟨N21, s21, f1, _, _⟩ := N20.new (o := .tup [.str (tx wT), x]) hfar nq1
      generalize upd H20 q1 (.tup [.str (tx wT), x]) = H21 at *
      walk_at "rds"
      refine ⟨by show 2 ≤ sizeLine; decide, fun q2 nq2 => ?_⟩
      obtain ⟨N22, s22, f2, _, _⟩ := N21.new (o := .tup [.str (tx wT), x]) hfar nq2
      generalize upd H21 q2 (.tup [.str (tx wT), x]) = H22 at *
      walk_at "rds"
      refine ⟨by show 2 ≤ sizeLine; decide, fun q3 nq3 => ?_⟩
      obtain ⟨N23, s23, f3, _, _⟩ := N22.new (o := .tup [.str (tx wV), y]) hfar nq3
      generalize upd H22 q3 (.tup [.str (tx wV), y]) = H23 at *
      walk_at "rds"
      refine ⟨by show 3 ≤ sizeLine; decide, fun q4 nq4 => ?_⟩
      obtain ⟨N24, s24, f4, _, _⟩ := N23.new (o := .lst [.ref q1, .ref q2, .ref q3]) hfar nq4
      have s2024 := same_trans (same_trans s21 s22) (same_trans s23 s24)
      have f1' := s24 _ _ (s23 _ _ (s22 _ _ f1))
      have f2' := s24 _ _ (s23 _ _ f2)
      have f3' := s24 _ _ f3
      generalize upd H23 q4 (.lst [.ref q1, .ref q2, .ref q3]) = H24 at *
      have hdx24 := Un.Dp.same s2024 hdx
      have hdy24 := Un.Dp.same s2024 hdy
      walk_at "rds"
      refine rd_reprZ (.lst (SqL.of f4) (.cons (.tup (SqT.of f1') (.cons (.str _) (.cons hdx24 .nil))) (.cons (.tup (SqT.of f2') (.cons (.str _) (.cons hdx24 .nil))) (.cons (.tup (SqT.of f3') (.cons (.str _) (.cons hdy24 .nil))) .nil)))) gF ?_
      clear f1 f2 f3 f4 f1' f2' f3' s21 s22 s23 s24 s2024 N20 N21 N22 N23 nq1 nq2 nq3 nq4 e20 a20 b20 c20 hdx24 hdy24 hdx hdy gF gT gV gdx gdy ldx ldy
      walk_at "rds"
      refine rd_ite (fun h => by simp at h) (fun _ => ?_)
      walk_at "rds"
      -- fill of a wrong value
      refine ⟨N24.hT, fun H25 x25 hT25 => ?_⟩
      refine rd_tt ?_
      walk_at "rds"
      obtain ⟨dx25, ho25⟩ := (St.ext' N24.hS x25).o
      refine ⟨st, dx25, _, rfl, ho25, rfl, ?_⟩
      walk_at "rds"
      refine ⟨st, y, _, _, _, rfl, (N24.hy.kt (KT.ext x25)).num, N24.hy.no, fun d1 G1 sG1 eG1 => .inr (.inl ⟨y, d1, rfl, rfl, eG1, fun p5 G2 sG2 nG2 => ?_⟩)⟩
      obtain ⟨N26, k26, e26, p5D, p5L, _⟩ := N24.lam (o := .tup [.str (tx wV), y]) hfar x25 hT25 (same_trans sG1 sG2) nG2
      generalize upd G2 p5 (.tup [.str (tx wV), y]) = H26 at *
      clear x25 hT25 sG1 eG1 sG2 nG2 ho25 N24 k26
      obtain ⟨dy, hdy, gdy, ldy⟩ := N26.hy.dp (K := K)
      have gV : GoodZ 20 200000 (.tuple [.str (tx wV), dy]) := (tup_g (by decide) gdy).mono (by decide) (by decide)
      walk_at "rds"
      refine rd_reprZ (.tup (SqT.of e26) (.cons (.str _) (.cons hdy .nil))) gV ?_
      walk_at "rds"
      refine ⟨by show 2 ≤ sizeLine; decide, fun q1 nq1 => ?_⟩
      obtain ⟨N27, s27, f1, _, _⟩ := N26.new (o := .tup [.str (tx wV), y]) hfar nq1
      generalize upd H26 q1 (.tup [.str (tx wV), y]) = H27 at *
      walk_at "rds"
      refine rd_reprZ (.tup (SqT.of f1) (.cons (.str _) (.cons (Un.Dp.same s27 hdy) .nil))) gV ?_
      clear N26 e26 hdy s27 f1 nq1 gV gdy ldy
      walk_at "rds"
      refine rd_ite (fun h => by simp at h) (fun _ => ?_)
      walk_at "rds"
      -- fill with after
      refine ⟨N27.hT, fun H25 x25 hT25 => ?_⟩
      refine rd_tt ?_
      walk_at "rds"
      obtain ⟨dx25, ho25⟩ := (St.ext' N27.hS x25).o
      refine ⟨st, dx25, _, rfl, ho25, rfl, ?_⟩
      walk_at "rds"
      refine ⟨rfl, rfl, st, y, _, _, _, rfl, (N27.hy.kt (KT.ext x25)).num, N27.hy.no, fun d1 G1 sG1 eG1 => .inr (.inl ⟨y, d1, rfl, rfl, eG1, fun p5 G2 sG2 nG2 => ?_⟩)⟩
      obtain ⟨N28, _, e28, _, _, _⟩ := N27.lam (o := .tup [.str (tx wV), y]) hfar x25 hT25 (same_trans sG1 sG2) nG2
      generalize upd G2 p5 (.tup [.str (tx wV), y]) = H28 at *
      clear x25 hT25 sG1 eG1 sG2 nG2 ho25 N27
      obtain ⟨dy, hdy, gdy, ldy⟩ := N28.hy.dp (K := K)
      have gV : GoodZ 20 200000 (.tuple [.str (tx wV), dy]) := (tup_g (by decide) gdy).mono (by decide) (by decide)
      walk_at "rds"
      refine rd_reprZ (.tup (SqT.of e28) (.cons (.str _) (.cons hdy .nil))) gV ?_
      walk_at "rds"
      refine ⟨by show 2 ≤ sizeLine; decide, fun q1 nq1 => ?_⟩
      obtain ⟨N29, s29, f1, _, _⟩ := N28.new (o := .tup [.str (tx wV), y]) hfar nq1
      generalize upd H28 q1 (.tup [.str (tx wV), y]) = H29 at *
      walk_at "rds"
      refine rd_reprZ (.tup (SqT.of f1) (.cons (.str _) (.cons (Un.Dp.same s29 hdy) .nil))) gV ?_
      clear N28 e28 hdy s29 f1 nq1 gV gdy ldy
      walk_at "rds"
      refine rd_ite (fun h => by simp at h) (fun _ => ?_)
      walk_at "rds"
      -- a key that is none
      refine ⟨N29.hT, fun H25 x25 hT25 => ?_⟩
      refine rd_tt ?_
      walk_at "rds"
      refine ⟨st, d, ls, m, x, rfl, St.ext' N29.hS x25, (N29.hx.kt (KT.ext x25)).txt, in_no N29.hx.no, fun d1 G1 sG1 eG1 => .inr (.inr (.inr ⟨x, d1, rfl, rfl, eG1, fun p5 G2 sG2 nG2 => ?_⟩))⟩
      obtain ⟨N30, _, e30, _, _, _⟩ := N29.lam (o := .tup [.str (tx wK), x]) hfar x25 hT25 (same_trans sG1 sG2) nG2
      generalize upd G2 p5 (.tup [.str (tx wK), x]) = H30 at *
      clear x25 hT25 sG1 eG1 sG2 nG2 N29
      obtain ⟨dx, hdx, gdx, ldx⟩ := N30.hx.dp (K := K) hhi hlt
      have gK : GoodZ 20 200000 (.tuple [.str (tx wK), dx]) := (tup_g (by decide) gdx).mono (by decide) (by decide)
      walk_at "rds"
      refine rd_reprZ (.tup (SqT.of e30) (.cons (.str _) (.cons hdx .nil))) gK ?_
      walk_at "rds"
      refine ⟨by show 2 ≤ sizeLine; decide, fun q1 nq1 => ?_⟩
      obtain ⟨N31, s31, f1, _, _⟩ := N30.new (o := .tup [.str (tx wK), x]) hfar nq1
      generalize upd H30 q1 (.tup [.str (tx wK), x]) = H31 at *
      walk_at "rds"
      refine rd_reprZ (.tup (SqT.of f1) (.cons (.str _) (.cons (Un.Dp.same s31 hdx) .nil))) gK ?_
      clear N30 e30 hdx s31 f1 nq1 gK gdx ldx
      walk_at "rds"
      refine rd_ite (fun h => by simp at h) (fun _ => ?_)
      obtain ⟨dx31, ho31⟩ := N31.hS.o
      walk_at "rds"
      refine ⟨st, dx31, _, rfl, ho31, rfl, ?_⟩
      walk_at "rds"
      refine ⟨st, d, ls, m, [], none, none, rfl, N31.hS, by omega, fun ks' r32 us32 H32 hks' s32 nr32 er32 pr32 => ?_⟩
      cases hks.uniq hks'
      walk_at "rds"
      refine rd_reprZ (Prs.list er32 pr32) gA ?_
      have N32 := N31.same hfar s32
      clear N31 s32 nr32 er32 pr32 ho31
      walk_at "rds"
      refine rd_ite (fun h => by simp at h) (fun _ => ?_)
      walk_at "rds"
      -- what is not there
      obtain ⟨c0, c1, rest, hcl⟩ : ∃ c0 c1 rest, ls = c0 :: c1 :: rest := by
        match ls, hl1 with
        | c0 :: c1 :: rest, _ => exact ⟨c0, c1, rest, rfl⟩
      have a0 : atI ls 0 = some c0 := by rw [hcl]; exact atI_0 _ _
      have a1 : atI ls 1 = some c1 := by rw [hcl]; exact atI_1 _ _ _
      have m0 : c0 ∈ ls := by rw [hcl]; exact List.mem_cons_self
      have m1 : c1 ∈ ls := by rw [hcl]; exact List.mem_cons_of_mem _ List.mem_cons_self
      have szl : ls.length ≤ sizeLine := sz_of' (by omega)
      refine rd_ixX szl a0 ?_
      walk_at "rds"
      refine rd_ixX szl a1 ?_
      walk_at "rds"
      refine rd_ixX szl a0 ?_
      walk_at "rds"
      refine rd_mulX (by decide) (by decide) (by show 1 * 9 ≤ 100000; decide) ?_
      walk_at "rds"
      refine ⟨by show 4 ≤ sizeLine; decide, fun pq npq => ?_⟩
      obtain ⟨N33, s33, e33, pqD, pqL⟩ := N32.new (o := .tup [.str (tx []), .str (tx [c0]), .str (tx [c1]), .str (tx (reps (9 : Int).toNat [c0]))]) hfar npq
      generalize upd H32 pq (.tup [.str (tx []), .str (tx [c0]), .str (tx [c1]), .str (tx (reps (9 : Int).toNat [c0]))]) = H33 at *
      have hall : ∀ x' ∈ [V.str (tx []), .str (tx [c0]), .str (tx [c1]), .str (tx (reps (9 : Int).toNat [c0]))], ∃ z, x' = .str (tx z) ∧ (∀ c ∈ z, c ∈ ls) ∧ z.length ≤ 9 := fun x' hx' => by
        simp only [List.mem_cons, List.not_mem_nil, or_false] at hx'
        rcases hx' with rfl | rfl | rfl | rfl
        · exact ⟨[], rfl, (fun c hc => by cases hc), by decide⟩
        · exact ⟨[c0], rfl, one_mem m0, by show 1 ≤ 9; decide⟩
        · exact ⟨[c1], rfl, one_mem m1, by show 1 ≤ 9; decide⟩
        · exact ⟨_, rfl, (fun c hc => by rw [List.mem_singleton.mp (reps_mem hc)]; exact m0), by show 9 ≤ 9; decide⟩
      refine ⟨pq, rfl, ⟨_, SqT.of e33⟩, fun le nle => lc_tup (K := K) (a := pq) (xs := [V.str (tx []), .str (tx [c0]), .str (tx [c1]), .str (tx (reps (9 : Int).toNat [c0]))]) (fun i H' => Same H33 H' ∧ ∃ zs : List (List Nat), H' le = some (.lst (zs.map fun z => V.str (tx z))) ∧ zs.length ≤ i ∧ ∀ z ∈ zs, (∀ c ∈ z, c ∈ ls) ∧ z.length ≤ 9 ∧ z ∉ keysT m)
        ⟨same_upd nle, [], upd_same, Nat.le_refl _, fun z hz => by cases hz⟩ (fun i H' _ h => SqT.of (h.1 _ _ e33)) ?_ ?_⟩
      · rintro i' x' H' hx' ⟨sH, zs, ez, hzl, hzs⟩
        have hi4 : i' < 4 := (List.getElem?_eq_some_iff.mp hx').1
        obtain ⟨z, rfl, hz1, hz2⟩ := hall _ (List.mem_of_getElem? hx')
        walk_at "rds"
        refine ⟨rfl, ?_⟩
        walk_at "rds"
        have hS' := N33.hS.same sH
        obtain ⟨dx', ho'⟩ := hS'.o
        refine ⟨st, dx', _, rfl, ho', st, d, ls, m, .str (tx z), rfl, hS', .inl ⟨z, rfl, by omega⟩, fun H2 s2 => ⟨_, rfl, ?_⟩⟩
        walk_at "rds"
        rw [if_pos rfl]
        refine rd_ite (fun h => ?_) (fun h => ?_)
        · have hzk : z ∉ keysT m := fun hk => by
            have e1 : inB ls m (.str (tx z)) = true := by
              show (isTxtB ls (.str (tx z)) && decide ((tx z).cps.toList ∈ keysT m)) = true
              rw [isTxt_ov ⟨hz1, by omega⟩, tx_cps, decide_eq_true hk]
              rfl
            rw [e1] at h
            cases h
          walk_at "rds"
          refine ⟨_, s2 _ _ ez, by rw [List.length_map]; exact small1000 (by omega), same_mut (same_trans sH s2) nle, zs ++ [z], by rw [upd_same, List.map_append]; rfl, by rw [List.length_append, List.length_singleton]; omega, fun z' hz' => ?_⟩
          rcases List.mem_append.mp hz' with hz' | hz'
          · exact hzs z' hz'
          · rw [List.mem_singleton.mp hz']
            exact ⟨hz1, hz2, hzk⟩
        · exact ⟨same_trans sH s2, zs, s2 _ _ ez, by omega, hzs⟩
      rintro H34 ⟨s34, zs, ez, hzl, hzs⟩
      have N34 := N33.same hfar s34
      obtain ⟨leD, leL⟩ := N33.hd.new nle
      clear s34 N33 s33 e33 npq nle N32 hall
      walk_at "rds"
      refine ⟨le, rfl, ⟨_, SqL.of ez⟩, for_it walk_list (fun i' σ' H' => (∃ u7, σ' = [some (.ref a), some (.ref D), some (.int (0 + (i : Nat))), some (.str (tx ls)), some (.ref e), some (.str (plD (prT m ks)).shown), some (.ref fl), u7, some (.ref le), some y, some (.str (tx t)), some x, some (.ref st), some (.int v), y14]) ∧ Now mg P1 P2 D L st d ls m x y H' ∧ H' le = some (.lst (zs.map fun z => V.str (tx z))))
        ⟨⟨_, rfl⟩, N34, ez⟩ (fun i' σ' H' _ h => SqL.of h.2.2) ?_ ?_⟩
      · rintro i' x' σ' H' H2 hi' ⟨⟨u7, rfl⟩, N35, ez35⟩ ⟨rfl, hx'⟩
        obtain ⟨z, hz, rfl⟩ := List.mem_map.mp (List.mem_of_getElem? hx')
        obtain ⟨hz1, hz2, hz3⟩ := hzs z hz
        walk_at "rds"
        refine ⟨N35.hT, fun H25 x25 hT25 => ?_⟩
        refine rd_tt ?_
        walk_at "rds"
        refine ⟨st, d, ls, m, .str (tx z), rfl, St.ext' N35.hS x25, .inl ⟨z, rfl, by omega⟩, in_none hz3, fun d1 G1 sG1 eG1 => .inr (.inr (.inr ⟨.str (tx z), d1, rfl, rfl, eG1, fun p5 G2 sG2 nG2 => ?_⟩))⟩
        obtain ⟨N36, k36, e36, _, _, _⟩ := N35.lam (o := .tup [.str (tx wK), .str (tx z)]) hfar x25 hT25 (same_trans sG1 sG2) nG2
        have ez36 := k36 _ _ ez35 leD leL fun _ z => by cases z
        generalize upd G2 p5 (.tup [.str (tx wK), .str (tx z)]) = H36 at *
        clear x25 hT25 sG1 eG1 sG2 nG2
        have gK : GoodZ 20 200000 (.tuple [.str (tx wK), .str (tx z)]) := (tup_g (by decide) ((str_good fun c hc => hlt c (hz1 c hc)).mono (by decide) (by omega))).mono (by decide) (by decide)
        walk_at "rds"
        refine rd_reprZ (.tup (SqT.of e36) (.cons (.str _) (.cons (.str _) .nil))) gK ?_
        walk_at "rds"
        refine ⟨by show 2 ≤ sizeLine; decide, fun q1 nq1 => ?_⟩
        obtain ⟨N37, s37, f1, _, _⟩ := N36.new (o := .tup [.str (tx wK), .str (tx z)]) hfar nq1
        have ez37 := s37 _ _ ez36
        generalize upd H36 q1 (.tup [.str (tx wK), .str (tx z)]) = H37 at *
        walk_at "rds"
        refine rd_reprZ (.tup (SqT.of f1) (.cons (.str _) (.cons (.str _) .nil))) gK ?_
        walk_at "rds"
        refine rd_ite (fun h => by simp at h) (fun _ => ?_)
        exact ⟨⟨_, rfl⟩, N37, ez37⟩
      · rintro σ' H' ⟨⟨u7, rfl⟩, N35, _⟩
        exact ⟨N35.hd, N35.hT, _, _, _, _, _, _, _, _, _, _, _, _, _, rfl⟩
end
theorem tabs_new {P1 P2 : Addr} {H : Hp} (h1 : H P1 = some (.tbl #[])) (h2 : H P2 = some (.tbl #[])) : LamX.Tabs (TL P1 P2) H := by
  have one : ∀ {P : Addr} {q : Str}, H P = some (.tbl #[]) → LamX.TabS H P q := fun {P q} h => ⟨#[], h, trivial, fun pos cv hc => by cases hc⟩
  intro p hp
  simp only [List.mem_cons, List.not_mem_nil, or_false] at hp
  rcases hp with rfl | rfl
  · exact one h1
  · exact one h2
theorem told_law {K : PySem.W.Frag} {P1 P2 : Addr} {H : Hp} {a : Addr} {ns : List Int} (hl : ns.length ≤ 63) (hS : SqL K H a (ns.map V.int)) (h1 : H P1 = some (.tbl #[])) (h2 : H P2 = some (.tbl #[])) : spLaw K P1 P2 [.ref a] H (fun v _ => v = .bl true) fun _ _ _ => False :=
  ⟨a, ns, rfl, hS, hl, tabs_new h1 h2, fun _ => rfl⟩
theorem all_mk {l : PySem.W.OpenLaw} {w : World} {K : PySem.W.Frag} {h : Heap} {mg : Str → Option Value} {fa f1 f2 f3 f4 f5 f6 f7 f8 f9 f10 f11 f12 f13 f14 f15 f16 f17 f18 f19 f20 f21 : Addr} (X : K.In h) (G : h.Ns mainGlobals mg) (hfa : mg "law" = some (.ref fa))
    {od1 od2 od3 od4 od5 od6 od7 od8 od9 od10 od11 od12 od13 od14 od15 od16 od17 od18 od19 od20 od21 an1 an2 an3 an4 an5 an6 an7 an8 an9 an10 an11 an12 an13 an14 an15 an16 an17 an18 an19 an20 an21 : Option Addr} {sl1 sl2 sl3 sl4 sl5 sl6 sl7 sl8 sl9 sl10 sl11 sl12 sl13 sl14 sl15 sl16 sl17 sl18 sl19 sl20 sl21 : Array (Option Value)} {oc1 oc2 oc3 oc4 oc5 oc6 oc7 oc8 oc9 oc10 oc11 oc12 oc13 oc14 oc15 oc16 oc17 oc18 oc19 oc20 oc21 kV1 kV2 kV3 kV4 kV5 kV6 kV7 kV8 kV9 kV10 kV11 kV12 kV13 kV14 kV15 kV16 kV17 kV18 kV19 kV20 kV21 dc1 dc2 dc3 dc4 dc5 dc6 dc7 dc8 dc9 dc10 dc11 dc12 dc13 dc14 dc15 dc16 dc17 dc18 dc19 dc20 dc21 pm1 pm2 pm3 pm4 pm5 pm6 pm7 pm8 pm9 pm10 pm11 pm12 pm13 pm14 pm15 pm16 pm17 pm18 pm19 pm20 pm21 ct1 ct2 ct3 ct4 ct5 ct6 ct7 ct8 ct9 ct10 ct11 ct12 ct13 ct14 ct15 ct16 ct17 ct18 ct19 ct20 ct21 cd1 cd2 cd3 cd4 cd5 cd6 cd7 cd8 cd9 cd10 cd11 cd12 cd13 cd14 cd15 cd16 cd17 cd18 cd19 : Value}
    {C1 C2 C3 C4 C5 N1 N2 N3 N4 N5 : Addr} {nm1 nm2 nm3 nm4 nm5 qn1 qn2 qn3 qn4 qn5 : Str} {bs1 bs2 bs3 bs4 bs5 sub1 sub2 sub3 sub4 sub5 : List Value} {sn1 sn2 sn3 sn4 sn5 : List Str} {ab1 ab2 ab3 ab4 ab5 : Bool} {col1 col2 col3 col4 col5 : Option Bool} {dd1 dd2 dd3 dd4 dd5 : Option Addr} {m0_1 m0_2 m0_3 m0_4 m0_5 m1_1 m1_2 m1_3 m1_4 m1_5 m2_1 m2_2 m2_3 m2_4 m2_5 m3_1 m3_2 m3_3 m3_4 m3_5 m5_1 m5_2 m5_3 m5_4 m5_5 : Option Value}
    {fI3 fI4 fI5 : Addr} {iod3 iod4 iod5 ian3 ian4 ian5 : Option Addr} {isl3 isl4 isl5 : Array (Option Value)} {ioc3 ioc4 ioc5 ikV3 ikV4 ikV5 idc3 idc4 idc5 ipm3 ipm4 ipm5 icd3 icd4 icd5 ict3 ict4 ict5 : Value}
    (g1 : PySem.W.nsIn K mainGlobals "UnderError" = some (some (.ref C1))) (x1 : K.lookup C1 = some (excClassObj nm1 qn1 C1 N1 bs1 [.type "ValueError", .type "Exception", .type "BaseException", .type "object"] true sn1 sub1 ab1 col1 dd1 m0_1 m1_1 m2_1 m3_1 m5_1 "ValueError.__new__")) (o1 : Un.clB K C1 = true)
    (e1 : PySem.W.excIn K C1 PySem.HandSPX.veTail "ValueError.__new__" = true)
    (g2 : PySem.W.nsIn K mainGlobals "InvalidLetters" = some (some (.ref C2))) (x2 : K.lookup C2 = some (excClassObj nm2 qn2 C2 N2 bs2 [.ref C1, .type "ValueError", .type "Exception", .type "BaseException", .type "object"] true sn2 sub2 ab2 col2 dd2 m0_2 m1_2 m2_2 m3_2 m5_2 "ValueError.__new__")) (o2 : Un.clB K C2 = true)
    (e2 : PySem.W.excIn K C2 PySem.HandSPX.veTail "ValueError.__new__" = true)
    (g3 : PySem.W.nsIn K mainGlobals "NoText" = some (some (.ref C3))) (x3 : K.lookup C3 = some (excClassObj nm3 qn3 C3 N3 bs3 [.ref C1, .type "ValueError", .type "Exception", .type "BaseException", .type "object"] true sn3 sub3 ab3 col3 dd3 m0_3 m1_3 m2_3 m3_3 m5_3 "ValueError.__new__")) (o3 : Un.clB K C3 = true)
    (n3 : PySem.W.findIn K (.ref C3) "value" = some none) (i3 : PySem.W.findIn K (.ref C3) "__init__" = some (some (.ref fI3))) (t3 : PySem.W.typeIn K (.ref fI3) = some (.type "function"))
    (li3 : K.lookup fI3 = some ⟨ioc3, iod3, .func (PySem.W.fnOf "__init__" "NoText.__init__" (defArgs s_NoText) (defBody s_NoText) (defScope s_NoText) .none ikV3 idc3 ipm3 ian3 icd3 ict3), isl3⟩) (ci3 : PySem.W.codeIn K icd3 "NoText.__init__" = true) (ki3 : PySem.W.keepIn K (.ref fI3) = true)
    (g4 : PySem.W.nsIn K mainGlobals "NoValue" = some (some (.ref C4))) (x4 : K.lookup C4 = some (excClassObj nm4 qn4 C4 N4 bs4 [.ref C1, .type "ValueError", .type "Exception", .type "BaseException", .type "object"] true sn4 sub4 ab4 col4 dd4 m0_4 m1_4 m2_4 m3_4 m5_4 "ValueError.__new__")) (o4 : Un.clB K C4 = true)
    (n4 : PySem.W.findIn K (.ref C4) "value" = some none) (i4 : PySem.W.findIn K (.ref C4) "__init__" = some (some (.ref fI4))) (t4 : PySem.W.typeIn K (.ref fI4) = some (.type "function"))
    (li4 : K.lookup fI4 = some ⟨ioc4, iod4, .func (PySem.W.fnOf "__init__" "NoValue.__init__" (defArgs s_NoValue) (defBody s_NoValue) (defScope s_NoValue) .none ikV4 idc4 ipm4 ian4 icd4 ict4), isl4⟩) (ci4 : PySem.W.codeIn K icd4 "NoValue.__init__" = true) (ki4 : PySem.W.keepIn K (.ref fI4) = true)
    (g5 : PySem.W.nsIn K mainGlobals "NoKey" = some (some (.ref C5))) (x5 : K.lookup C5 = some (excClassObj nm5 qn5 C5 N5 bs5 [.type "KeyError", .type "LookupError", .type "Exception", .type "BaseException", .type "object"] true sn5 sub5 ab5 col5 dd5 m0_5 m1_5 m2_5 m3_5 m5_5 "LookupError.__new__")) (o5 : Un.clB K C5 = true)
    (n5 : PySem.W.findIn K (.ref C5) "key" = some none) (i5 : PySem.W.findIn K (.ref C5) "__init__" = some (some (.ref fI5))) (t5 : PySem.W.typeIn K (.ref fI5) = some (.type "function"))
    (li5 : K.lookup fI5 = some ⟨ioc5, iod5, .func (PySem.W.fnOf "__init__" "NoKey.__init__" (defArgs s_NoKey) (defBody s_NoKey) (defScope s_NoKey) .none ikV5 idc5 ipm5 ian5 icd5 ict5), isl5⟩) (ci5 : PySem.W.codeIn K icd5 "NoKey.__init__" = true) (ki5 : PySem.W.keepIn K (.ref fI5) = true)
    (a1 : PySem.W.nsIn K mainGlobals "check_letters" = some (some (.ref f1))) (l1 : K.lookup f1 = some ⟨oc1, od1, .func (PySem.W.fnOf "check_letters" "check_letters" (defArgs s_check_letters) (defBody s_check_letters) (defScope s_check_letters) .none kV1 dc1 pm1 an1 cd1 ct1), sl1⟩) (c1 : PySem.W.codeIn K cd1 "check_letters" = true) (k1 : PySem.W.keepIn K (.ref f1) = true)
    (a2 : PySem.W.nsIn K mainGlobals "_are_letters" = some (some (.ref f2))) (l2 : K.lookup f2 = some ⟨oc2, od2, .func (PySem.W.fnOf "_are_letters" "_are_letters" (defArgs s__are_letters) (defBody s__are_letters) (defScope s__are_letters) .none kV2 dc2 pm2 an2 cd2 ct2), sl2⟩) (c2 : PySem.W.codeIn K cd2 "_are_letters" = true) (k2 : PySem.W.keepIn K (.ref f2) = true)
    (a3 : PySem.W.nsIn K mainGlobals "_consists_of" = some (some (.ref f3))) (l3 : K.lookup f3 = some ⟨oc3, od3, .func (PySem.W.fnOf "_consists_of" "_consists_of" (defArgs s__consists_of) (defBody s__consists_of) (defScope s__consists_of) .none kV3 dc3 pm3 an3 cd3 ct3), sl3⟩) (c3 : PySem.W.codeIn K cd3 "_consists_of" = true) (k3 : PySem.W.keepIn K (.ref f3) = true)
    (a4 : PySem.W.nsIn K mainGlobals "_ascends" = some (some (.ref f4))) (l4 : K.lookup f4 = some ⟨oc4, od4, .func (PySem.W.fnOf "_ascends" "_ascends" (defArgs s__ascends) (defBody s__ascends) (defScope s__ascends) .none kV4 dc4 pm4 an4 cd4 ct4), sl4⟩) (c4 : PySem.W.codeIn K cd4 "_ascends" = true) (k4 : PySem.W.keepIn K (.ref f4) = true)
    (a5 : PySem.W.nsIn K mainGlobals "is_text" = some (some (.ref f5))) (l5 : K.lookup f5 = some ⟨oc5, od5, .func (PySem.W.fnOf "is_text" "is_text" (defArgs s_is_text) (defBody s_is_text) (defScope s_is_text) .none kV5 dc5 pm5 an5 cd5 ct5), sl5⟩) (c5 : PySem.W.codeIn K cd5 "is_text" = true) (k5 : PySem.W.keepIn K (.ref f5) = true)
    (a6 : PySem.W.nsIn K mainGlobals "is_number" = some (some (.ref f6))) (l6 : K.lookup f6 = some ⟨oc6, od6, .func (PySem.W.fnOf "is_number" "is_number" (defArgs s_is_number) (defBody s_is_number) (defScope s_is_number) .none kV6 dc6 pm6 an6 cd6 ct6), sl6⟩) (c6 : PySem.W.codeIn K cd6 "is_number" = true) (k6 : PySem.W.keepIn K (.ref f6) = true)
    (a7 : PySem.W.nsIn K mainGlobals "check_value" = some (some (.ref f7))) (l7 : K.lookup f7 = some ⟨oc7, od7, .func (PySem.W.fnOf "check_value" "check_value" (defArgs s_check_value) (defBody s_check_value) (defScope s_check_value) .none kV7 dc7 pm7 an7 cd7 ct7), sl7⟩) (c7 : PySem.W.codeIn K cd7 "check_value" = true) (k7 : PySem.W.keepIn K (.ref f7) = true)
    (a8 : PySem.W.nsIn K mainGlobals "_keys" = some (some (.ref f8))) (l8 : K.lookup f8 = some ⟨oc8, od8, .func (PySem.W.fnOf "_keys" "_keys" (defArgs s__keys) (defBody s__keys) (defScope s__keys) .none kV8 dc8 pm8 an8 cd8 ct8), sl8⟩) (c8 : PySem.W.codeIn K cd8 "_keys" = true) (k8 : PySem.W.keepIn K (.ref f8) = true)
    (a9 : PySem.W.nsIn K mainGlobals "_law_deal" = some (some (.ref f9))) (l9 : K.lookup f9 = some ⟨oc9, od9, .func (PySem.W.fnOf "_law_deal" "_law_deal" (defArgs s__law_deal) (defBody s__law_deal) (defScope s__law_deal) .none kV9 dc9 pm9 an9 cd9 ct9), sl9⟩) (c9 : PySem.W.codeIn K cd9 "_law_deal" = true) (k9 : PySem.W.keepIn K (.ref f9) = true)
    (a10 : PySem.W.nsIn K mainGlobals "_law_draw" = some (some (.ref f10))) (l10 : K.lookup f10 = some ⟨oc10, od10, .func (PySem.W.fnOf "_law_draw" "_law_draw" (defArgs s__law_draw) (defBody s__law_draw) (defScope s__law_draw) .none kV10 dc10 pm10 an10 cd10 ct10), sl10⟩) (c10 : PySem.W.codeIn K cd10 "_law_draw" = true) (k10 : PySem.W.keepIn K (.ref f10) = true)
    (a11 : PySem.W.nsIn K mainGlobals "_law_pick" = some (some (.ref f11))) (l11 : K.lookup f11 = some ⟨oc11, od11, .func (PySem.W.fnOf "_law_pick" "_law_pick" (defArgs s__law_pick) (defBody s__law_pick) (defScope s__law_pick) .none kV11 dc11 pm11 an11 cd11 ct11), sl11⟩) (c11 : PySem.W.codeIn K cd11 "_law_pick" = true) (k11 : PySem.W.keepIn K (.ref f11) = true)
    (a12 : PySem.W.nsIn K mainGlobals "_law_letters" = some (some (.ref f12))) (l12 : K.lookup f12 = some ⟨oc12, od12, .func (PySem.W.fnOf "_law_letters" "_law_letters" (defArgs s__law_letters) (defBody s__law_letters) (defScope s__law_letters) .none kV12 dc12 pm12 an12 cd12 ct12), sl12⟩) (c12 : PySem.W.codeIn K cd12 "_law_letters" = true) (k12 : PySem.W.keepIn K (.ref f12) = true)
    (a13 : PySem.W.nsIn K mainGlobals "_law_text" = some (some (.ref f13))) (l13 : K.lookup f13 = some ⟨oc13, od13, .func (PySem.W.fnOf "_law_text" "_law_text" (defArgs s__law_text) (defBody s__law_text) (defScope s__law_text) .none kV13 dc13 pm13 an13 cd13 ct13), sl13⟩) (c13 : PySem.W.codeIn K cd13 "_law_text" = true) (k13 : PySem.W.keepIn K (.ref f13) = true)
    (a14 : PySem.W.nsIn K mainGlobals "_law_value" = some (some (.ref f14))) (l14 : K.lookup f14 = some ⟨oc14, od14, .func (PySem.W.fnOf "_law_value" "_law_value" (defArgs s__law_value) (defBody s__law_value) (defScope s__law_value) .none kV14 dc14 pm14 an14 cd14 ct14), sl14⟩) (c14 : PySem.W.codeIn K cd14 "_law_value" = true) (k14 : PySem.W.keepIn K (.ref f14) = true)
    (a15 : PySem.W.nsIn K mainGlobals "_law_refused" = some (some (.ref f15))) (l15 : K.lookup f15 = some ⟨oc15, od15, .func (PySem.W.fnOf "_law_refused" "_law_refused" (defArgs s__law_refused) (defBody s__law_refused) (defScope s__law_refused) .none kV15 dc15 pm15 an15 cd15 ct15), sl15⟩) (c15 : PySem.W.codeIn K cd15 "_law_refused" = true) (k15 : PySem.W.keepIn K (.ref f15) = true)
    (a16 : PySem.W.nsIn K mainGlobals "_law_put" = some (some (.ref f16))) (l16 : K.lookup f16 = some ⟨oc16, od16, .func (PySem.W.fnOf "_law_put" "_law_put" (defArgs s__law_put) (defBody s__law_put) (defScope s__law_put) .none kV16 dc16 pm16 an16 cd16 ct16), sl16⟩) (c16 : PySem.W.codeIn K cd16 "_law_put" = true) (k16 : PySem.W.keepIn K (.ref f16) = true)
    (a17 : PySem.W.nsIn K mainGlobals "_law_got" = some (some (.ref f17))) (l17 : K.lookup f17 = some ⟨oc17, od17, .func (PySem.W.fnOf "_law_got" "_law_got" (defArgs s__law_got) (defBody s__law_got) (defScope s__law_got) .none kV17 dc17 pm17 an17 cd17 ct17), sl17⟩) (c17 : PySem.W.codeIn K cd17 "_law_got" = true) (k17 : PySem.W.keepIn K (.ref f17) = true)
    (a18 : PySem.W.nsIn K mainGlobals "_law_odd_key" = some (some (.ref f18))) (l18 : K.lookup f18 = some ⟨oc18, od18, .func (PySem.W.fnOf "_law_odd_key" "_law_odd_key" (defArgs s__law_odd_key) (defBody s__law_odd_key) (defScope s__law_odd_key) .none kV18 dc18 pm18 an18 cd18 ct18), sl18⟩) (c18 : PySem.W.codeIn K cd18 "_law_odd_key" = true) (k18 : PySem.W.keepIn K (.ref f18) = true)
    (a19 : PySem.W.nsIn K mainGlobals "_law_odd_value" = some (some (.ref f19))) (l19 : K.lookup f19 = some ⟨oc19, od19, .func (PySem.W.fnOf "_law_odd_value" "_law_odd_value" (defArgs s__law_odd_value) (defBody s__law_odd_value) (defScope s__law_odd_value) .none kV19 dc19 pm19 an19 cd19 ct19), sl19⟩) (c19 : PySem.W.codeIn K cd19 "_law_odd_value" = true) (k19 : PySem.W.keepIn K (.ref f19) = true)
    {cA20 pA20 : Addr} {cvs20 : Array Value} {cosl20 : Array (Option Value)} {cod20 : Option Addr}
    (a20 : PySem.W.nsIn K mainGlobals "_law_pairs_right" = some (some (.ref f20))) (l20 : K.lookup f20 = some ⟨oc20, od20, .func (PySem.W.fnOf "_law_pairs_right" "_law_pairs_right" (defArgs s__law_pairs_right) (defBody s__law_pairs_right) (defScope s__law_pairs_right) .none kV20 dc20 pm20 an20 (.ref cA20) ct20), sl20⟩) (c20 : PySem.W.codeIn K (.ref cA20) "_law_pairs_right" = true) (k20 : PySem.W.keepIn K (.ref f20) = true)
    (lo20 : K.lookup cA20 = some ⟨.type "code", cod20, .fields cvs20, cosl20⟩) (lp20 : cvs20[11]? = some (.ref pA20)) (lh20 : PySem.W.codeHdIn K cA20 pA20 = true) (ln20 : K.lookup pA20 = none) (lt20 : h.get? pA20 = some { cls := .none, data := .fields #[] })
    {cA21 pA21 : Addr} {cvs21 : Array Value} {cosl21 : Array (Option Value)} {cod21 : Option Addr}
    (a21 : PySem.W.nsIn K mainGlobals "law" = some (some (.ref f21))) (l21 : K.lookup f21 = some ⟨oc21, od21, .func (PySem.W.fnOf "law" "law" (defArgs s_law) (defBody s_law) (defScope s_law) .none kV21 dc21 pm21 an21 (.ref cA21) ct21), sl21⟩) (c21 : PySem.W.codeIn K (.ref cA21) "law" = true) (k21 : PySem.W.keepIn K (.ref f21) = true)
    (lo21 : K.lookup cA21 = some ⟨.type "code", cod21, .fields cvs21, cosl21⟩) (lp21 : cvs21[11]? = some (.ref pA21)) (lh21 : PySem.W.codeHdIn K cA21 pA21 = true) (ln21 : K.lookup pA21 = none) (lt21 : h.get? pA21 = some { cls := .none, data := .fields #[] })
    (lq20_21 : pA20 ≠ pA21)
    (X_x_NoText : PySem.W.exmOne K (.ref C3) (.ref C1) = some true)
    (X_x_NoValue : PySem.W.exmOne K (.ref C4) (.ref C1) = some true)
    (X_x_InvalidLetters : PySem.W.exmOne K (.ref C2) (.ref C1) = some true)
    (X_x_NoKey : PySem.W.exmOne K (.ref C5) (.ref C1) = some false)
    (X_k_NoText_NoText : PySem.W.kitOne K (.ref C3) (.ref C3) = some true)
    (X_k_NoText_NoValue : PySem.W.kitOne K (.ref C3) (.ref C4) = some false)
    (X_k_NoText_InvalidLetters : PySem.W.kitOne K (.ref C3) (.ref C2) = some false)
    (X_k_NoValue_NoText : PySem.W.kitOne K (.ref C4) (.ref C3) = some false)
    (X_k_NoValue_NoValue : PySem.W.kitOne K (.ref C4) (.ref C4) = some true)
    (X_k_NoValue_InvalidLetters : PySem.W.kitOne K (.ref C4) (.ref C2) = some false)
    (X_k_InvalidLetters_NoText : PySem.W.kitOne K (.ref C2) (.ref C3) = some false)
    (X_k_InvalidLetters_NoValue : PySem.W.kitOne K (.ref C2) (.ref C4) = some false)
    (X_k_InvalidLetters_InvalidLetters : PySem.W.kitOne K (.ref C2) (.ref C2) = some true)
    (z1 : PySem.W.nsIn K mainGlobals "KeyError" = some none)
    (z2 : PySem.W.nsIn K mainGlobals "TypeError" = some none)
    (z3 : PySem.W.nsIn K mainGlobals "ValueError" = some none)
    (z4 : PySem.W.nsIn K mainGlobals "abs" = some none)
    (z5 : PySem.W.nsIn K mainGlobals "all" = some none)
    (z6 : PySem.W.nsIn K mainGlobals "bool" = some none)
    (z7 : PySem.W.nsIn K mainGlobals "int" = some none)
    (z8 : PySem.W.nsIn K mainGlobals "isinstance" = some none)
    (z9 : PySem.W.nsIn K mainGlobals "len" = some none)
    (z10 : PySem.W.nsIn K mainGlobals "list" = some none)
    (z11 : PySem.W.nsIn K mainGlobals "range" = some none)
    (z12 : PySem.W.nsIn K mainGlobals "repr" = some none)
    (z13 : PySem.W.nsIn K mainGlobals "sorted" = some none)
    (z14 : PySem.W.nsIn K mainGlobals "str" = some none)
    (z15 : PySem.W.nsIn K mainGlobals "tuple" = some none)
    (z16 : PySem.W.nsIn K mainGlobals "zip" = some none)
    {tq1 : Tok} (q1 : PySem.W.nsIn K mainGlobals "CHARACTERS" = some (some (.str "-./0123456789_abcdefghijklmnopqrstuvwxyz" tq1)))
    {tq2 : Tok} (q2 : PySem.W.nsIn K mainGlobals "FEWEST_LETTERS" = some (some (.int 2 tq2)))
    {tq3 : Tok} (q3 : PySem.W.nsIn K mainGlobals "MOST_LETTERS" = some (some (.int 5 tq3)))
    {OC1 : Addr} (og1 : PySem.W.nsIn K mainGlobals "Store" = some (some (.ref OC1))) (op1 : PySem.W.plainGet K OC1 Str.empty = true) (oh1 : PySem.W.hasDictIn K OC1 = true) (oo1 : PySem.W.plainOver K OC1 = true) (os1 : PySem.W.findIn K (.ref OC1) "__setattr__" = some (some (.builtin "object.__setattr__")))
    (oq1 : PySem.W.noSeq K OC1 = true) (oi1 : Un.insB K OC1 = true) (on1 : PySem.W.findIn K (.ref OC1) "__ne__" = some (some (.builtin "object.__ne__"))) (or1 : PySem.W.mroIn K OC1 (.type "object") = some true) (om1 : PySem.W.makesIn K OC1 = true) (ok1 : PySem.W.keepIn K (.ref OC1) = true)
    (of1_letters : PySem.W.findIn K (.ref OC1) "letters" = some none)
    (of1_table : PySem.W.findIn K (.ref OC1) "table" = some none)
    {mf1 : Addr} {mod1 man1 : Option Addr} {msl1 : Array (Option Value)} {moc1 mdc1 mpm1 mcd1 mct1 : Value}
    {mT1 : Addr}
    {mkv1 : Value}
    (ma1 : PySem.W.findIn K (.ref OC1) "__init__" = some (some (.ref mf1))) (mi1 : PySem.W.isFn K (.ref mf1) = true) (mn1 : PySem.W.fnIn K mf1 = true) (ml1 : K.lookup mf1 = some ⟨moc1, mod1, .func (PySem.W.fnOf "__init__" "Store.__init__" (defArgs s_Store___init__) (defBody s_Store___init__) (defScope s_Store___init__) (.ref mT1) mkv1 mdc1 mpm1 man1 mcd1 mct1), msl1⟩) (mc1 : PySem.W.codeIn K mcd1 "Store.__init__" = true) (mk1 : PySem.W.keepIn K (.ref mf1) = true)
    {mE1 : Addr} {mts1 mes1 : Array (Option Value)} {mtn1 : Nat} (mt1 : K.lookup mT1 = some ⟨.type "tuple", none, .seq #[.ref mE1] mtn1, mts1⟩) (me1 : K.lookup mE1 = some ⟨.type "tuple", none, .seq #[] 0, mes1⟩)
    {mf2 : Addr} {mod2 man2 : Option Addr} {msl2 : Array (Option Value)} {moc2 mdc2 mpm2 mcd2 mct2 : Value}
    {mkv2 : Value}
    (ma2 : PySem.W.findIn K (.ref OC1) "__setitem__" = some (some (.ref mf2))) (mi2 : PySem.W.isFn K (.ref mf2) = true) (mn2 : PySem.W.fnIn K mf2 = true) (ml2 : K.lookup mf2 = some ⟨moc2, mod2, .func (PySem.W.fnOf "__setitem__" "Store.__setitem__" (defArgs s_Store___setitem__) (defBody s_Store___setitem__) (defScope s_Store___setitem__) .none mkv2 mdc2 mpm2 man2 mcd2 mct2), msl2⟩) (mc2 : PySem.W.codeIn K mcd2 "Store.__setitem__" = true) (mk2 : PySem.W.keepIn K (.ref mf2) = true)
    {mf3 : Addr} {mod3 man3 : Option Addr} {msl3 : Array (Option Value)} {moc3 mdc3 mpm3 mcd3 mct3 : Value}
    {mkv3 : Value}
    (ma3 : PySem.W.findIn K (.ref OC1) "__getitem__" = some (some (.ref mf3))) (mi3 : PySem.W.isFn K (.ref mf3) = true) (mn3 : PySem.W.fnIn K mf3 = true) (ml3 : K.lookup mf3 = some ⟨moc3, mod3, .func (PySem.W.fnOf "__getitem__" "Store.__getitem__" (defArgs s_Store___getitem__) (defBody s_Store___getitem__) (defScope s_Store___getitem__) .none mkv3 mdc3 mpm3 man3 mcd3 mct3), msl3⟩) (mc3 : PySem.W.codeIn K mcd3 "Store.__getitem__" = true) (mk3 : PySem.W.keepIn K (.ref mf3) = true)
    {mf4 : Addr} {mod4 man4 : Option Addr} {msl4 : Array (Option Value)} {moc4 mdc4 mpm4 mcd4 mct4 : Value}
    {mkv4 : Value}
    (ma4 : PySem.W.findIn K (.ref OC1) "__contains__" = some (some (.ref mf4))) (mi4 : PySem.W.isFn K (.ref mf4) = true) (mn4 : PySem.W.fnIn K mf4 = true) (ml4 : K.lookup mf4 = some ⟨moc4, mod4, .func (PySem.W.fnOf "__contains__" "Store.__contains__" (defArgs s_Store___contains__) (defBody s_Store___contains__) (defScope s_Store___contains__) .none mkv4 mdc4 mpm4 man4 mcd4 mct4), msl4⟩) (mc4 : PySem.W.codeIn K mcd4 "Store.__contains__" = true) (mk4 : PySem.W.keepIn K (.ref mf4) = true)
    {mf5 : Addr} {mod5 man5 : Option Addr} {msl5 : Array (Option Value)} {moc5 mdc5 mpm5 mcd5 mct5 : Value}
    {mT5 : Addr}
    {mD5 : Addr}
    (ma5 : PySem.W.findIn K (.ref OC1) "pairs" = some (some (.ref mf5))) (mi5 : PySem.W.isFn K (.ref mf5) = true) (mn5 : PySem.W.fnIn K mf5 = true) (ml5 : K.lookup mf5 = some ⟨moc5, mod5, .func (PySem.W.fnOf "pairs" "Store.pairs" (defArgs s_Store_pairs) (defBody s_Store_pairs) (defScope s_Store_pairs) (.ref mT5) (.ref mD5) mdc5 mpm5 man5 mcd5 mct5), msl5⟩) (mc5 : PySem.W.codeIn K mcd5 "Store.pairs" = true) (mk5 : PySem.W.keepIn K (.ref mf5) = true)
    {mts5 : Array (Option Value)} {mtn5 : Nat} {mv5_0 : Tok} (mt5 : K.lookup mT5 = some ⟨.type "tuple", none, .seq #[.str "" mv5_0, .none] mtn5, mts5⟩)
    (mw5_0_ : PySem.W.nsIn K mD5 "after" = some (some (.none)))
    {mf6 : Addr} {mod6 man6 : Option Addr} {msl6 : Array (Option Value)} {moc6 mdc6 mpm6 mcd6 mct6 : Value}
    {mD6 : Addr}
    (ma6 : PySem.W.findIn K (.ref OC1) "fill" = some (some (.ref mf6))) (mi6 : PySem.W.isFn K (.ref mf6) = true) (mn6 : PySem.W.fnIn K mf6 = true) (ml6 : K.lookup mf6 = some ⟨moc6, mod6, .func (PySem.W.fnOf "fill" "Store.fill" (defArgs s_Store_fill) (defBody s_Store_fill) (defScope s_Store_fill) .none (.ref mD6) mdc6 mpm6 man6 mcd6 mct6), msl6⟩) (mc6 : PySem.W.codeIn K mcd6 "Store.fill" = true) (mk6 : PySem.W.keepIn K (.ref mf6) = true)
    (mw6_0_ : PySem.W.nsIn K mD6 "after" = some (some (.none)))
    (hke : PySem.W.kitOne K (.ref C5) (.type "KeyError") = some true)
    : Un.LawTG l w K 11 63 "_law_script" mg fa h := by
  have e := hfa.symm.trans (PySem.W.mg_of X G a21)
  cases e
  have F1 := fun_mk (st := s_check_letters) l1 c1 k1
  have b1 := F1.binds (ps := ["letters"]) fun _ _ _ _ _ _ us hl => match us, hl with | [_], _ => rfl
  have F2 := fun_mk (st := s__are_letters) l2 c2 k2
  have b2 := F2.binds (ps := ["value"]) fun _ _ _ _ _ _ us hl => match us, hl with | [_], _ => rfl
  have F3 := fun_mk (st := s__consists_of) l3 c3 k3
  have b3 := F3.binds (ps := ["characters", "text"]) fun _ _ _ _ _ _ us hl => match us, hl with | [_, _], _ => rfl
  have F4 := fun_mk (st := s__ascends) l4 c4 k4
  have b4 := F4.binds (ps := ["text"]) fun _ _ _ _ _ _ us hl => match us, hl with | [_], _ => rfl
  have F5 := fun_mk (st := s_is_text) l5 c5 k5
  have b5 := F5.binds (ps := ["letters", "value"]) fun _ _ _ _ _ _ us hl => match us, hl with | [_, _], _ => rfl
  have F6 := fun_mk (st := s_is_number) l6 c6 k6
  have b6 := F6.binds (ps := ["value"]) fun _ _ _ _ _ _ us hl => match us, hl with | [_], _ => rfl
  have F7 := fun_mk (st := s_check_value) l7 c7 k7
  have b7 := F7.binds (ps := ["value"]) fun _ _ _ _ _ _ us hl => match us, hl with | [_], _ => rfl
  have F8 := fun_mk (st := s__keys) l8 c8 k8
  have b8 := F8.binds (ps := ["store", "low", "high", "after"]) fun _ _ _ _ _ _ us hl => match us, hl with | [_, _, _, _], _ => rfl
  have F9 := fun_mk (st := s__law_deal) l9 c9 k9
  have b9 := F9.binds (ps := ["_law_script", "_law_base"]) fun _ _ _ _ _ _ us hl => match us, hl with | [_, _], _ => rfl
  have F10 := fun_mk (st := s__law_draw) l10 c10 k10
  have b10 := F10.binds (ps := ["_law_deal_here", "_law_many"]) fun _ _ _ _ _ _ us hl => match us, hl with | [_, _], _ => rfl
  have F11 := fun_mk (st := s__law_pick) l11 c11 k11
  have b11 := F11.binds (ps := ["_law_deal_here", "_law_some"]) fun _ _ _ _ _ _ us hl => match us, hl with | [_, _], _ => rfl
  have F12 := fun_mk (st := s__law_letters) l12 c12 k12
  have b12 := F12.binds (ps := ["_law_deal_here", "_law_most"]) fun _ _ _ _ _ _ us hl => match us, hl with | [_, _], _ => rfl
  have F13 := fun_mk (st := s__law_text) l13 c13 k13
  have b13 := F13.binds (ps := ["_law_deal_here", "_law_letters_here", "_law_most"]) fun _ _ _ _ _ _ us hl => match us, hl with | [_, _, _], _ => rfl
  have F14 := fun_mk (st := s__law_value) l14 c14 k14
  have b14 := F14.binds (ps := ["_law_deal_here"]) fun _ _ _ _ _ _ us hl => match us, hl with | [_], _ => rfl
  have F15 := fun_mk (st := s__law_refused) l15 c15 k15
  have b15 := F15.binds (ps := ["_law_work"]) fun _ _ _ _ _ _ us hl => match us, hl with | [_], _ => rfl
  have F16 := fun_mk (st := s__law_put) l16 c16 k16
  have b16 := F16.binds (ps := ["_law_store", "_law_key", "_law_value_here"]) fun _ _ _ _ _ _ us hl => match us, hl with | [_, _, _], _ => rfl
  have F17 := fun_mk (st := s__law_got) l17 c17 k17
  have b17 := F17.binds (ps := ["_law_store", "_law_key"]) fun _ _ _ _ _ _ us hl => match us, hl with | [_, _], _ => rfl
  have F18 := fun_mk (st := s__law_odd_key) l18 c18 k18
  have b18 := F18.binds (ps := ["_law_deal_here", "_law_letters_here"]) fun _ _ _ _ _ _ us hl => match us, hl with | [_, _], _ => rfl
  have F19 := fun_mk (st := s__law_odd_value) l19 c19 k19
  have b19 := F19.binds (ps := ["_law_deal_here"]) fun _ _ _ _ _ _ us hl => match us, hl with | [_], _ => rfl
  have F20 := fun_mk (st := s__law_pairs_right) l20 c20 k20
  have b20 := F20.binds (ps := ["_law_deal_here", "_law_letters_here", "_law_pairs"]) fun _ _ _ _ _ _ us hl => match us, hl with | [_, _, _], _ => rfl
  have FC20 : FunC K "_law_pairs_right" "_law_pairs_right" s__law_pairs_right _ _ cA20 := ⟨⟨_, _, _, _, _, _, _, _, rfl, l20, c20⟩, k20⟩
  have F21 := fun_mk (st := s_law) l21 c21 k21
  have b21 := F21.binds (ps := ["_law_script"]) fun _ _ _ _ _ _ us hl => match us, hl with | [_], _ => rfl
  have FC21 : FunC K "law" "law" s_law _ _ cA21 := ⟨⟨_, _, _, _, _, _, _, _, rfl, l21, c21⟩, k21⟩
  have oc1 : ca mg "Store" = OC1 := ca_of (PySem.W.mg_of X G og1)
  have RO1_19 : mg "Store" = some (.ref (ca mg "Store")) := by rw [oc1]; exact PySem.W.mg_of X G og1
  have RO1_20 : Cls K (ca mg "Store") := by rw [oc1]; exact ⟨op1, oh1, oo1, os1⟩
  have RO1_21 : PySem.W.noSeq K (ca mg "Store") = true := by rw [oc1]; exact oq1
  have RO1_22 : InsK K (ca mg "Store") := by rw [oc1]; exact insB_ok oi1
  have RO1_23 : NeK K (ca mg "Store") := by rw [oc1]; exact ⟨on1, or1⟩
  have RO1_24 : NoAttr K (ca mg "Store") "letters" := by rw [oc1]; exact of1_letters
  have RO1_25 : NoAttr K (ca mg "Store") "table" := by rw [oc1]; exact of1_table
  have RO1_26 : AtI K (ca mg "Store") "__init__" "Store.__init__" s_Store___init__ := by rw [oc1]; exact ⟨mf1, mE1, _, ⟨⟨_, _, _, _, _, _, _, _, _, _, rfl, ml1, mc1, .inr ⟨by simp, mT1, _, [.ref mE1], mtn1, rfl, mt1, rfl, .cons rfl .nil⟩, .inl rfl⟩, mk1⟩, ⟨om1, ma1, mi1, ok1⟩, _, me1, rfl, rfl, rfl⟩
  have RO1_27 : AtM K (ca mg "Store") "__setitem__" "Store.__setitem__" s_Store___setitem__ ["self", "at", "worth"] := by rw [oc1]; exact ⟨mf2, _, (fun_mk (st := s_Store___setitem__) ml2 mc2 mk2), ⟨ma2, mi2, mk2⟩, mn2, (fun_mk (st := s_Store___setitem__) ml2 mc2 mk2).binds (ps := ["self", "at", "worth"]) fun _ _ _ _ _ _ us hl => match us, hl with | [_, _, _], _ => rfl⟩
  have RO1_28 : AtM K (ca mg "Store") "__getitem__" "Store.__getitem__" s_Store___getitem__ ["self", "at"] := by rw [oc1]; exact ⟨mf3, _, (fun_mk (st := s_Store___getitem__) ml3 mc3 mk3), ⟨ma3, mi3, mk3⟩, mn3, (fun_mk (st := s_Store___getitem__) ml3 mc3 mk3).binds (ps := ["self", "at"]) fun _ _ _ _ _ _ us hl => match us, hl with | [_, _], _ => rfl⟩
  have RO1_29 : AtM K (ca mg "Store") "__contains__" "Store.__contains__" s_Store___contains__ ["self", "x"] := by rw [oc1]; exact ⟨mf4, _, (fun_mk (st := s_Store___contains__) ml4 mc4 mk4), ⟨ma4, mi4, mk4⟩, mn4, (fun_mk (st := s_Store___contains__) ml4 mc4 mk4).binds (ps := ["self", "x"]) fun _ _ _ _ _ _ us hl => match us, hl with | [_, _], _ => rfl⟩
  have RO1_30 : AtD K (ca mg "Store") "pairs" "Store.pairs" s_Store_pairs [V.str (tx []), V.non] [("after", V.non)] := by rw [oc1]; exact ⟨mf5, _, ⟨⟨_, _, _, _, _, _, _, _, _, _, rfl, ml5, mc5, .inr ⟨by simp, mT5, _, [.str "" mv5_0, .none], mtn5, rfl, mt5, rfl, (.cons ⟨_, rfl⟩ (.cons rfl .nil))⟩, .inr ⟨mD5, rfl, fun q hq => by rw [List.mem_singleton.mp hq]; exact ⟨_, mw5_0_, rfl⟩⟩⟩, mk5⟩, ⟨ma5, mi5, mk5⟩, mn5⟩
  have RO1_31 : AtD K (ca mg "Store") "fill" "Store.fill" s_Store_fill [] [("after", V.non)] := by rw [oc1]; exact ⟨mf6, _, ⟨⟨_, _, _, _, _, _, _, _, _, _, rfl, ml6, mc6, .inl ⟨rfl, rfl⟩, .inr ⟨mD6, rfl, fun q hq => by rw [List.mem_singleton.mp hq]; exact ⟨_, mw6_0_, rfl⟩⟩⟩, mk6⟩, ⟨ma6, mi6, mk6⟩, mn6⟩
  have ox1 : OxC K C1 := Un.oxc_ve x1 o1
  have cc1 : ca mg "UnderError" = C1 := ca_of (PySem.W.mg_of X G g1)
  have E1 : Err0 K mg "UnderError" (ca mg "UnderError") := by rw [cc1]; exact ⟨PySem.W.mg_of X G g1, ox1, e1⟩
  have ox2 : OxC K C2 := Un.oxc_vs x2 o2
  have cc2 : ca mg "InvalidLetters" = C2 := ca_of (PySem.W.mg_of X G g2)
  have E2 : Err0 K mg "InvalidLetters" (ca mg "InvalidLetters") := by rw [cc2]; exact ⟨PySem.W.mg_of X G g2, ox2, e2⟩
  have ox3 : OxC K C3 := Un.oxc_vs x3 o3
  have cc3 : ca mg "NoText" = C3 := ca_of (PySem.W.mg_of X G g3)
  have FI3 := fun_mk (st := s_NoText) li3 ci3 ki3
  have bI3 := FI3.binds (ps := ["self", "value"]) fun _ _ _ _ _ _ us hl => match us, hl with | [_, _], _ => rfl
  have E3 : ErrI K mg "NoText" "NoText.__init__" "value" s_NoText (ca mg "NoText") := by rw [cc3]; exact ⟨PySem.W.mg_of X G g3, ox3, n3, _, _, i3, t3, FI3, bI3⟩
  have ox4 : OxC K C4 := Un.oxc_vs x4 o4
  have cc4 : ca mg "NoValue" = C4 := ca_of (PySem.W.mg_of X G g4)
  have FI4 := fun_mk (st := s_NoValue) li4 ci4 ki4
  have bI4 := FI4.binds (ps := ["self", "value"]) fun _ _ _ _ _ _ us hl => match us, hl with | [_, _], _ => rfl
  have E4 : ErrI K mg "NoValue" "NoValue.__init__" "value" s_NoValue (ca mg "NoValue") := by rw [cc4]; exact ⟨PySem.W.mg_of X G g4, ox4, n4, _, _, i4, t4, FI4, bI4⟩
  have ox5 : OxC K C5 := Un.oxc_ke x5 o5
  have cc5 : ca mg "NoKey" = C5 := ca_of (PySem.W.mg_of X G g5)
  have FI5 := fun_mk (st := s_NoKey) li5 ci5 ki5
  have bI5 := FI5.binds (ps := ["self", "key"]) fun _ _ _ _ _ _ us hl => match us, hl with | [_, _], _ => rfl
  have E5 : ErrI K mg "NoKey" "NoKey.__init__" "key" s_NoKey (ca mg "NoKey") := by rw [cc5]; exact ⟨PySem.W.mg_of X G g5, ox5, n5, _, _, i5, t5, FI5, bI5⟩
  have T : Txt K mg := ⟨⟨_, _, F1, PySem.W.mg_of X G a1, b1⟩, ⟨_, _, F2, PySem.W.mg_of X G a2, b2⟩, ⟨_, _, F3, PySem.W.mg_of X G a3, b3⟩, ⟨_, _, F4, PySem.W.mg_of X G a4, b4⟩, ⟨_, _, F5, PySem.W.mg_of X G a5, b5⟩, ⟨_, _, F6, PySem.W.mg_of X G a6, b6⟩, ⟨_, _, F7, PySem.W.mg_of X G a7, b7⟩, ⟨_, _, F8, PySem.W.mg_of X G a8, b8⟩, ⟨_, _, F9, PySem.W.mg_of X G a9, b9⟩, ⟨_, _, F10, PySem.W.mg_of X G a10, b10⟩, ⟨_, _, F11, PySem.W.mg_of X G a11, b11⟩, ⟨_, _, F12, PySem.W.mg_of X G a12, b12⟩, ⟨_, _, F13, PySem.W.mg_of X G a13, b13⟩, ⟨_, _, F14, PySem.W.mg_of X G a14, b14⟩, ⟨_, _, F15, PySem.W.mg_of X G a15, b15⟩, ⟨_, _, F16, PySem.W.mg_of X G a16, b16⟩, ⟨_, _, F17, PySem.W.mg_of X G a17, b17⟩, ⟨_, _, F18, PySem.W.mg_of X G a18, b18⟩, ⟨_, _, F19, PySem.W.mg_of X G a19, b19⟩, RO1_19, RO1_20, RO1_21, RO1_22, RO1_23, RO1_24, RO1_25, RO1_26, RO1_27, RO1_28, RO1_29, RO1_30, RO1_31, E1, E2, E3, E4, E5, PySem.W.mg_none_of X G z1, PySem.W.mg_none_of X G z2, PySem.W.mg_none_of X G z3, PySem.W.mg_none_of X G z4, PySem.W.mg_none_of X G z5, PySem.W.mg_none_of X G z6, PySem.W.mg_none_of X G z7, PySem.W.mg_none_of X G z8, PySem.W.mg_none_of X G z9, PySem.W.mg_none_of X G z10, PySem.W.mg_none_of X G z11, PySem.W.mg_none_of X G z12, PySem.W.mg_none_of X G z13, PySem.W.mg_none_of X G z14, PySem.W.mg_none_of X G z15, PySem.W.mg_none_of X G z16, ⟨_, PySem.W.mg_of X G q1⟩, ⟨_, PySem.W.mg_of X G q2⟩, ⟨_, PySem.W.mg_of X G q3⟩⟩
  have Z : Xt K mg := ⟨(by rw [cc3, cc1]; exact X_x_NoText), (by rw [cc4, cc1]; exact X_x_NoValue), (by rw [cc2, cc1]; exact X_x_InvalidLetters), (by rw [cc5, cc1]; exact X_x_NoKey), (by rw [cc3]; exact X_k_NoText_NoText), (by rw [cc3, cc4]; exact X_k_NoText_NoValue), (by rw [cc3, cc2]; exact X_k_NoText_InvalidLetters), (by rw [cc4, cc3]; exact X_k_NoValue_NoText), (by rw [cc4]; exact X_k_NoValue_NoValue), (by rw [cc4, cc2]; exact X_k_NoValue_InvalidLetters), (by rw [cc2, cc3]; exact X_k_InvalidLetters_NoText), (by rw [cc2, cc4]; exact X_k_InvalidLetters_NoValue), (by rw [cc2]; exact X_k_InvalidLetters_InvalidLetters)⟩
  refine ⟨PySem.W.fnOf "law" "law" (defArgs s_law) (defBody s_law) (defScope s_law) .none kV21 dc21 pm21 an21 (.ref cA21) ct21, [(cA20, pA20), (cA21, pA21)], spLaw K pA20 pA21, fun p hp => ?_, fun p hp => ?_, fun p hp => ?_, fun s v => .of_eq rfl, fun H a ns hl hT hS => told_law hl hS (hT _ (List.mem_cons_self)) (hT _ (List.mem_cons_of_mem _ (List.mem_cons_self))), fun base _ _ hB => ?_⟩
  ·
    simp only [List.mem_cons, List.not_mem_nil, or_false] at hp
    rcases hp with rfl | rfl
    · exact lt20
    · exact lt21
  ·
    simp only [List.mem_cons, List.not_mem_nil, or_false] at hp
    rcases hp with rfl | rfl
    · exact ln20
    · exact ln21
  ·
    simp only [List.mem_cons, List.not_mem_nil, or_false] at hp
    rcases hp with rfl | rfl
    · exact PySem.W.codeHd_of_K X lh20
    · exact PySem.W.codeHd_of_K X lh21
  · have hB0 := hB
    exact ok_law T Z ⟨_, _, FC20, PySem.W.mg_of X G a20, b20⟩ (hB _ (List.mem_cons_self)) (hB _ (List.mem_cons_of_mem _ (List.mem_cons_self))) lq20_21 FC21
end Zk47
open PySem PySem.W PyProof.Rows
set_option maxRecDepth 100000 in
set_option maxHeartbeats 0 in
theorem PySem.Challenge.cw_undername_k47_stores_refused_holds : PySem.Challenge.rw_undername_k47_stores_refused.Holds := by
  w_on; o_law; k_head; (case hw => w_witness2)
  k_fill
  refine Un.walk_ofTG (l := PySem.Challenge.rw_undername_k47_stores_refused) (n := 63) (k := 11) (x := "_law_script") rfl (by decide) rfl ⟨rfl, by decide, by decide⟩ (fun w h Y => PySem.W.km_in_of Y) ?F
  case F =>
    intro w mg fa h Y KX G hmg
    refine' Zk47.all_mk KX G hmg ?g1 ?x1 ?o1 ?e1 ?g2 ?x2 ?o2 ?e2 ?g3 ?x3 ?o3 ?n3 ?i3 ?t3 ?li3 ?ci3 ?ki3 ?g4 ?x4 ?o4 ?n4 ?i4 ?t4 ?li4 ?ci4 ?ki4 ?g5 ?x5 ?o5 ?n5 ?i5 ?t5 ?li5 ?ci5 ?ki5 ?a1 ?l1 ?c1 ?k1 ?a2 ?l2 ?c2 ?k2 ?a3 ?l3 ?c3 ?k3 ?a4 ?l4 ?c4 ?k4 ?a5 ?l5 ?c5 ?k5 ?a6 ?l6 ?c6 ?k6 ?a7 ?l7 ?c7 ?k7 ?a8 ?l8 ?c8 ?k8 ?a9 ?l9 ?c9 ?k9 ?a10 ?l10 ?c10 ?k10 ?a11 ?l11 ?c11 ?k11 ?a12 ?l12 ?c12 ?k12 ?a13 ?l13 ?c13 ?k13 ?a14 ?l14 ?c14 ?k14 ?a15 ?l15 ?c15 ?k15 ?a16 ?l16 ?c16 ?k16 ?a17 ?l17 ?c17 ?k17 ?a18 ?l18 ?c18 ?k18 ?a19 ?l19 ?c19 ?k19 ?a20 ?l20 ?c20 ?k20 ?lo20 ?lp20 ?lh20 ?ln20 ?lt20 ?a21 ?l21 ?c21 ?k21 ?lo21 ?lp21 ?lh21 ?ln21 ?lt21 ?lq20_21 ?X_x_NoText ?X_x_NoValue ?X_x_InvalidLetters ?X_x_NoKey ?X_k_NoText_NoText ?X_k_NoText_NoValue ?X_k_NoText_InvalidLetters ?X_k_NoValue_NoText ?X_k_NoValue_NoValue ?X_k_NoValue_InvalidLetters ?X_k_InvalidLetters_NoText ?X_k_InvalidLetters_NoValue ?X_k_InvalidLetters_InvalidLetters ?z1 ?z2 ?z3 ?z4 ?z5 ?z6 ?z7 ?z8 ?z9 ?z10 ?z11 ?z12 ?z13 ?z14 ?z15 ?z16 ?q1 ?q2 ?q3 ?og1 ?op1 ?oh1 ?oo1 ?os1 ?oq1 ?oi1 ?on1 ?or1 ?om1 ?ok1 ?of1_letters ?of1_table ?ma1 ?mi1 ?mn1 ?ml1 ?mc1 ?mk1 ?mt1 ?me1 ?ma2 ?mi2 ?mn2 ?ml2 ?mc2 ?mk2 ?ma3 ?mi3 ?mn3 ?ml3 ?mc3 ?mk3 ?ma4 ?mi4 ?mn4 ?ml4 ?mc4 ?mk4 ?ma5 ?mi5 ?mn5 ?ml5 ?mc5 ?mk5 ?mt5 ?mw5_0_ ?ma6 ?mi6 ?mn6 ?ml6 ?mc6 ?mk6 ?mw6_0_ ?hke
    case g1 => k_is
    case x1 => k_is
    case o1 => kernel_rfl
    case e1 => kernel_rfl
    case g2 => k_is
    case x2 => k_is
    case o2 => kernel_rfl
    case e2 => kernel_rfl
    case g3 => k_is
    case x3 => k_is
    case o3 => kernel_rfl
    case n3 => k_is
    case i3 => k_is
    case t3 => k_is
    case li3 => k_is
    case ci3 => k_is
    case ki3 => k_is
    case g4 => k_is
    case x4 => k_is
    case o4 => kernel_rfl
    case n4 => k_is
    case i4 => k_is
    case t4 => k_is
    case li4 => k_is
    case ci4 => k_is
    case ki4 => k_is
    case g5 => k_is
    case x5 => k_is
    case o5 => kernel_rfl
    case n5 => k_is
    case i5 => k_is
    case t5 => k_is
    case li5 => k_is
    case ci5 => k_is
    case ki5 => k_is
    case a1 => k_is
    case l1 => k_is
    case c1 => k_is
    case k1 => k_is
    case a2 => k_is
    case l2 => k_is
    case c2 => k_is
    case k2 => k_is
    case a3 => k_is
    case l3 => k_is
    case c3 => k_is
    case k3 => k_is
    case a4 => k_is
    case l4 => k_is
    case c4 => k_is
    case k4 => k_is
    case a5 => k_is
    case l5 => k_is
    case c5 => k_is
    case k5 => k_is
    case a6 => k_is
    case l6 => k_is
    case c6 => k_is
    case k6 => k_is
    case a7 => k_is
    case l7 => k_is
    case c7 => k_is
    case k7 => k_is
    case a8 => k_is
    case l8 => k_is
    case c8 => k_is
    case k8 => k_is
    case a9 => k_is
    case l9 => k_is
    case c9 => k_is
    case k9 => k_is
    case a10 => k_is
    case l10 => k_is
    case c10 => k_is
    case k10 => k_is
    case a11 => k_is
    case l11 => k_is
    case c11 => k_is
    case k11 => k_is
    case a12 => k_is
    case l12 => k_is
    case c12 => k_is
    case k12 => k_is
    case a13 => k_is
    case l13 => k_is
    case c13 => k_is
    case k13 => k_is
    case a14 => k_is
    case l14 => k_is
    case c14 => k_is
    case k14 => k_is
    case a15 => k_is
    case l15 => k_is
    case c15 => k_is
    case k15 => k_is
    case a16 => k_is
    case l16 => k_is
    case c16 => k_is
    case k16 => k_is
    case a17 => k_is
    case l17 => k_is
    case c17 => k_is
    case k17 => k_is
    case a18 => k_is
    case l18 => k_is
    case c18 => k_is
    case k18 => k_is
    case a19 => k_is
    case l19 => k_is
    case c19 => k_is
    case k19 => k_is
    case a20 => k_is
    case l20 => k_is
    case c20 => k_is
    case k20 => k_is
    case lo20 => k_is
    case lp20 => rfl
    case lh20 => kernel_rfl
    case ln20 => rfl
    case lt20 => exact PySem.W.km_tabs_of Y _ (by simp)
    case a21 => k_is
    case l21 => k_is
    case c21 => k_is
    case k21 => k_is
    case lo21 => k_is
    case lp21 => rfl
    case lh21 => kernel_rfl
    case ln21 => rfl
    case lt21 => exact PySem.W.km_tabs_of Y _ (by simp)
    case lq20_21 => decide
    case X_x_NoText => kernel_rfl
    case X_x_NoValue => kernel_rfl
    case X_x_InvalidLetters => kernel_rfl
    case X_x_NoKey => kernel_rfl
    case X_k_NoText_NoText => kernel_rfl
    case X_k_NoText_NoValue => kernel_rfl
    case X_k_NoText_InvalidLetters => kernel_rfl
    case X_k_NoValue_NoText => kernel_rfl
    case X_k_NoValue_NoValue => kernel_rfl
    case X_k_NoValue_InvalidLetters => kernel_rfl
    case X_k_InvalidLetters_NoText => kernel_rfl
    case X_k_InvalidLetters_NoValue => kernel_rfl
    case X_k_InvalidLetters_InvalidLetters => kernel_rfl
    case z1 => k_is
    case z2 => k_is
    case z3 => k_is
    case z4 => k_is
    case z5 => k_is
    case z6 => k_is
    case z7 => k_is
    case z8 => k_is
    case z9 => k_is
    case z10 => k_is
    case z11 => k_is
    case z12 => k_is
    case z13 => k_is
    case z14 => k_is
    case z15 => k_is
    case z16 => k_is
    case q1 => k_is
    case q2 => k_is
    case q3 => k_is
    case og1 => k_is
    case op1 => k_is
    case oh1 => k_is
    case oo1 => k_is
    case os1 => k_is
    case oq1 => kernel_rfl
    case oi1 => kernel_rfl
    case on1 => k_is
    case or1 => k_is
    case om1 => k_is
    case ok1 => k_is
    case of1_letters => k_is
    case of1_table => k_is
    case ma1 => k_is
    case mi1 => k_is
    case mn1 => k_is
    case ml1 => k_is
    case mc1 => k_is
    case mk1 => k_is
    case mt1 => k_is
    case me1 => k_is
    case ma2 => k_is
    case mi2 => k_is
    case mn2 => k_is
    case ml2 => k_is
    case mc2 => k_is
    case mk2 => k_is
    case ma3 => k_is
    case mi3 => k_is
    case mn3 => k_is
    case ml3 => k_is
    case mc3 => k_is
    case mk3 => k_is
    case ma4 => k_is
    case mi4 => k_is
    case mn4 => k_is
    case ml4 => k_is
    case mc4 => k_is
    case mk4 => k_is
    case ma5 => k_is
    case mi5 => k_is
    case mn5 => k_is
    case ml5 => k_is
    case mc5 => k_is
    case mk5 => k_is
    case mt5 => k_is
    case mw5_0_ => k_is
    case ma6 => k_is
    case mi6 => k_is
    case mn6 => k_is
    case ml6 => k_is
    case mc6 => k_is
    case mk6 => k_is
    case mw6_0_ => k_is
    case hke => kernel_rfl
